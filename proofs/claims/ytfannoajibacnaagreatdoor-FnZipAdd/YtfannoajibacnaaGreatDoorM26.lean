/- Texts. -/
import Derived.Test.YtfannoajibacnaaGreatDoorM15
import Derived.Test.YtfannoajibacnaaGreatDoorM25
import Derived.Test.YtfannoajibacnaaGreatDoorM22
import Derived.Test.YtfannoajibacnaaGreatDoorTt4
set_option linter.all false
set_option maxRecDepth 100000
set_option maxHeartbeats 6400000
namespace Go.Proofs.YtfannoajibacnaaGreatDoor
open Go.Proofs.Tryz
open Go.RowKit Corb
variable {a:Option Addr}{b:Nat}{l:List Int}{w w':World}
def jM(w:World)(b:Nat)(a:Option Addr)(l:List Int):Prop:=bE w a l/\(0<l.length->∀x,a=some x->x.block≠b/\∀cur fr,w.heap[x.block]?≠some (.cells cur 5 fr))
def jM.keep(h:jM w b a l)(k:cx b w w'):jM w' b a l:=by
 by_cases c:0<l.length
 .
  obtain⟨g,o,e,j,m⟩:=h.1 c;obtain⟨f,h2⟩:=h.2 c _ e;have hb:=k.2 g j f h2;refine⟨fun _=>⟨g,o,e,a0h j k.1,fun i n=>?_⟩,fun _ x ex=>?_⟩
  . rw[←m i n];exact World.cell?_of_block (w:=w) hb
  .
   have:x=⟨g,o,none⟩:=by rw[ex]at e;exact a1A e
   subst this;exact⟨f,fun d fr=>by rw[hb];exact h2 d fr⟩
 . exact⟨fun h=>absurd h c,fun h=>absurd h c⟩
def jM.below(h:jM w b a l)(hb:Below w.heap.size w w'):jM w' b a l:=h.keep ⟨hb.size,fun k c _ _=>hb.block k c⟩
def PF{base n cap:Nat}(k:l.length=n)(h:w.ownsRow base 3 1 (.slice a n cap) n (l.map (Value.int .i64)))(hb:b<base):jM w b a l:=by
 refine⟨ES k h,fun m x ex=>?_⟩;subst ex;rcases h.2 with⟨e,_⟩|⟨g,c,f,e,i,j,_⟩
 . cases e
 . simp only[a0L,a0l]at e;obtain⟨rfl,_⟩:=e;refine⟨by show g≠b;omega,fun d fr=>?_⟩;show w.heap[g]?≠_;rw[j];intro e;cases e
def gh{base n cap:Nat}(c:l.length=n)(h:an w base (.slice a n cap) l)(hb:b<base):jM w b a l:=PF c (h.own c) hb
def bh(p:Nat×Nat)(l:List (Int×Int)):Nat×Nat:=jh p (oh l)
def bw(p:Nat×Nat)(l m:List (Int×Int)):bh p (l++m)=bh (bh p l) m:=by
 unfold bh oh;rw[a0K,ou]
def pcM(l:List Int)(k:Nat):Int×Int:=((rv (l.getD k 0).toNat ((aW l 15).2.getD k 0).toNat:Nat),l.getD k 0)
def Out.kept{V m:Nat}(h:Out w b V m)(hb:Below w.heap.size w w'):Out w' b V m:=by
 obtain⟨c,v,a,e⟩:=h;refine⟨c,v,Three.kept a (hb.mono a.2.2.2.2.2.2),?_⟩;exact a1V e (row:=none) ⟨hb.os,hb.tape,hb.output,hb.size,fun k d _=>hb.block k d⟩ (by
  cases f:v.ownBlock with
  | none=>exact .inl rfl
  | some k=>exact .inr (by simp))
def Out.lt{V m:Nat}(h:Out w b V m):b<w.heap.size:=by
 obtain⟨_,_,a,_⟩:=h;exact a.2.2.2.2.2.2
def kZ(w:World)(b:Nat)(p:Nat×Nat):Prop:=Out w b p.1 p.2
def fR(b:Nat)(p:Nat×Nat)(num bits:Int)(w:World)(h:kZ w b p)(c:pOk num bits=true)(k:p.2<=100000) :
  Calls prog 197 #[.pointer b,num,bits] w fun e w'=>e = .returned (.tuple #[])/\kZ w' b (bh p [(num,bits)])/\KB b w w':=by
 obtain⟨⟨f,g⟩,n0,n1⟩:=aT.1 c;have a:num.toNat<p2 bits.toNat:=by
  have:(num.toNat:Int)<((p2 bits.toNat:Nat):Int):=by rw[a3m n0];exact n1
  omega
 have i:p2 bits.toNat<=p2 16:=a0P (by omega) (by omega);have e16:p2 16=65536:=by decide
 apply(PU b p.1 p.2 num bits w h n0 (by omega) f g k).mono;rintro e w'⟨rfl,d,j⟩;refine⟨rfl,?_,j⟩;rw[a1g a]at d;exact d
def qo{k:Nat}(h:0<=l.getD k 0/\l.getD k 0<=15):pOk (pcM l k).1 (pcM l k).2=true:=by
 refine aT.2 ⟨⟨h.1,by show l.getD k 0<=16;omega⟩,by show(0:Int)<=((_:Nat):Int);omega,?_⟩;show((rv (l.getD k 0).toNat ((aW l 15).2.getD k 0).toNat:Nat):Int)<((p2 (l.getD k 0).toNat:Nat):Int);have:=Qb (l.getD k 0).toNat ((aW l 15).2.getD k 0).toNat
 unfold p2;omega
theorem rU(b:Nat)(p:Nat×Nat)(a ac:Option Addr)(cap n u k:Nat)(l:List Int)(w:World)(v:kZ w b p)(q:l.length=n)(h:bE w a l)(g:bE w ac (aW l 15).2)(y:k<n)(z:n<=300)(r:0<=l.getD k 0/\l.getD k 0<=15)(x:0<=(aW l 15).2.getD k 0/\(aW l 15).2.getD k 0<65536)(A:p.2<=100000) :
  Calls prog 236 #[.pointer b,.slice a n cap,.slice ac n u,.int .i64 (k:Int)] w fun e w'=>e = .returned (.tuple #[])/\kZ w' b (bh p [pcM l k])/\KB b w w':=by
 have HP:=af (Bkx.l3Piece_any a ac cap n u k l (aW l 15).2 w q ((bJ l 15).trans q) h g y z r x);have j:=af (qo r);have f:Hid (pcM l k=(((rv (l.getD k 0).toNat ((aW l 15).2.getD k 0).toNat:Nat):Int),l.getD k 0)):=rfl;rw[ae f]at j;generalize pcM l k=PC at *
 generalize rv (l.getD k 0).toNat ((aW l 15).2.getD k 0).toNat=R at *
 generalize l.getD k 0=Y at *
 have s:=af v;clear v h g r x q;go_enter func236,ntmps236;go_wp2_with fail;refine(ae HP).mono ?_;rintro e x1⟨rfl,c⟩;have d:Below w.heap.size w (x1.alloc (.cells #[R,Y] 167)):=c.alloc c.size _;have o:=af (Out.kept (ae s) d);have m:=af ((KB.refl b w).below d (a0s (Out.lt (ae s))));clear c d HP;go_wp2_with fail;refine(fR b p (R:Nat) Y _ (ae o) (ae j) A).mono ?_;rintro e x2⟨rfl,h2,i⟩;have t:=af (a0b h2 ((ae m).trans i));clear h2 i;go_wp2
 go_end0
 exact⟨rfl,by rw[ae f];exact(ae t).1,(ae t).2⟩
end Go.Proofs.YtfannoajibacnaaGreatDoor
namespace Go.Proofs.YtfannoajibacnaaGreatDoor
open Go.Proofs.Tryz
open Go.RowKit Corb Bkx
variable {b:Nat}{w w':World}
def aw.drew(h:aw b w w'):aw b w w'.drew:=⟨h.1.drew,h.2,h.3⟩
def de.keep1{base:Nat}{a:Option Addr}{l:List Int}(h:de w base a l)(c:aw b w w')(hb:b<base):de w' base a l:=h.moved c.1.size (fun g e d _=>c.2 g d (by omega))
def cf.keep1{base:Nat}{l:List Int}{C:Array Value}(h:cf w base l C)(c:aw b w w')(hb:b<base):cf w' base l C:=by
 obtain⟨a,cap,ac,d,q,sc,e,f,h2,g⟩:=h;exact⟨a,cap,ac,d,q,sc,e,f.keep1 c hb,h2.keep1 c hb,g.keep1 c hb⟩
def SyP(w:World)(b:Nat)(s:ByteArray)(d:Option (Int×Nat))(e:Ending)(w':World):Prop:=
 aw b w w'/\match d with
  | none=>e=lJ
  | some (i,q)=>e = .returned (.int .i64 i)/\Rdr w' b s q
def sy:Array Value:=#[Value.slice none 0 0,Value.slice none 0 0,Value.int .i64 0,Value.int .i64 0,Value.int .i64 0,Value.int .i64 0,Value.int .i64 0,Value.int .i64 0,Value.int .i64 0,Value.int .i64 0,Value.int .i64 0,Value.int .i64 0,Value.int .i64 0,Value.int .i64 0,Value.int .i64 0,Value.int .i64 0,Value.int .i64 0,Value.int .i64 0,Value.slice none 0 0]
def Tryz.infoLenB:(prog.info? 258).map (·.size)=some 19:=by kernel_rfl
def M6(B:BkI)(i:Bks B)(b p base:Nat)(C:Array Value)(l:List Int)(s:ByteArray)(w:World)(h:cf w base l C)(c:b<base)(d:ap l=true)(n:s.size<=2000000)(m:Rdr w b s p)(k:p<=8*s.size) :
  Calls prog B.g #[.agg C,.pointer b] w (oI w b s (dec l (ak s) (8*s.size) p)):=by
 obtain⟨a,cap,ac,o,q,sc,e,r,h2,f⟩:=h;exact Bkx.bookGet_any B i a q cap l.length _ sc b p _ C l s w e d rfl n m k (fun W j=>(f.keep1 j c).1)
def vF(B:BkI)(M:Bks B)(b p base:Nat)(C:Array Value)(l:List Int)(s:ByteArray)(w:World)(N:cf w base l C)(E:b<base)(H:ap l=true)(Y:s.size<=2000000)(R:Rdr w b s p)(X:p<=8*s.size) :
  Calls prog B.s #[.pointer b,.agg C] w (SyP w b s (dec l (ak s) (8*s.size) p)):=by
 have G:=cE
 have O:=R.lt;have V:Below w.heap.size w (w.alloc (.cells C B.T)):=cC;have z:aw b w (w.alloc (.cells C B.T)).drew:=((aw.refl b w).alloc O _).drew;have I:Rdr (w.alloc (.cells C B.T)).drew b s p:=R.alloc _;have y:cf (w.alloc (.cells C B.T)).drew base l C:=N.later V.drew;have J:=N.size;have F:(prog.info? B.T).map (·.size)=some C.size:=by rw[J];exact M.info
 have r:(w.alloc (.cells C B.T)).rangeAt w.heap.size 0 C.toList:=by
  intro j v U;rw[a0G,bH (alloc_at w (.cells C B.T))];simpa using U
 have L:=af (M6 B M b p base C l s _ y E H Y I X);have o:=af z;have Q:w.heap.size≠b:=by omega
 have a:Hid (∀W,aw b (w.alloc (.cells C B.T)).drew W->W.rangeAt w.heap.size 0 C.toList):=by
  intro W hW j v U;rw[←r j v U];exact World.cell?_of_block (w:=w.alloc (.cells C B.T)) (hW.2 w.heap.size (by simp) Q)
 have A:(w.alloc (.cells C B.T)).drew.rangeAt w.heap.size 0 C.toList:=r;clear N H Y R X V z I y J r E;obtain⟨ds,D,P⟩:=M.und;rcases M with rfl|rfl|rfl;all_goals
  simp only[bkL,bkD,bkN]at F L o a A D ⊢;generalize dec l (ak s) (8*s.size) p=d at *;unfold SyP;unfold oI at L;rcases d with _|⟨i,q⟩;all_goals
   simp only at L ⊢
   (first|go_enter func276,ntmps276|go_enter func283,ntmps283|go_enter func278,ntmps278)
   go_wp2_with fail;refine wp_region_held_drew (S:=fun W=>W.rangeAt w.heap.size 0 C.toList) G A (fun x=>?_);refine aq 0 (.agg C) rfl (dR (by rfl) _ (.tmp 3) rfl w.heap.size 0 rfl C _ (fun _ h=>h) D P F) x ?_;refine ag 1 (.pointer b) rfl (fun W f=>by go_simp) x ?_;refine ag 2 (.pointer b) rfl (fun W f=>by go_simp) x ?_;refine ag 3 (.pointer b) rfl (fun W f=>by go_simp) x ?_;refine ah 4 fun K g=>?_;go_simp
   (first|go_at_call 281|go_at_call 287|go_at_call 285)
   refine L.mono ?_
  . rintro e x1⟨m,rfl⟩;have n:=af (o.trans m);refine Shut.out g _ _ (a _ m) (fun c=>?_);clear g K;refine ag 5 (.tuple #[.int .i64 0,.bool false]) rfl (fun W f=>by go_simp) c ?_;refine ag 6 (.int .i64 0) rfl (fun W f=>by go_simp) c ?_;refine ag 7 (.bool false) rfl (fun W f=>by go_simp) c ?_;refine ah 8 fun K g=>?_;go_simp;refine Shut.out g _ _ (a _ m) (fun t=>?_);clear g K;refine ah 9 fun K g=>?_;go_simp;refine Shut.out g _ _ (a _ m) (fun u=>?_);clear g K;refine wpAnyH_done (by kernel_rfl) ?_ _;clear x c t u m a;go_wp2_with fail;apply(gm _).mono;rintro e x2⟨rfl,k⟩;rw[k];clear k x2;exact⟨rfl,n,rfl⟩
  . rintro e x1⟨m,rfl,Z⟩;have n:=af (a0b (o.trans m) Z);refine Shut.out g _ _ (a _ m) (fun c=>?_);clear g K;refine ag 5 (.tuple #[i,.bool true]) rfl (fun W f=>by go_simp) c ?_;refine ag 6 (.int .i64 i) rfl (fun W f=>by go_simp) c ?_;refine ag 7 (.bool true) rfl (fun W f=>by go_simp) c ?_;refine ah 8 fun K g=>?_;go_simp;refine Shut.out g _ _ (a _ m) (fun t=>?_);clear g K;refine ah 9 fun K g=>?_;go_simp;refine Shut.out g _ _ (a _ m) (fun u=>?_);clear g K;refine wpAnyH_done (by kernel_rfl) ?_ _;clear x c t u m a Z;go_wp2_with fail;apply(dO _).mono;rintro e x2⟨rfl,k⟩;rw[k];clear k x2;go_wp2;go_ret;exact⟨n.1,rfl,n.2⟩
def Aq(B:BkI)(A:Bks B)(a:Option Addr)(cap n base:Nat)(l:List Int)(w:World)(u:l.length=n)(h:de w base a l)(Z:base<=w.heap.size)(hm:n<=1000) :
  Calls prog B.b #[.slice a n cap] w fun e w'=>Below w.heap.size w w'/\if ap l=true then ∃C,e = .returned (.agg C)/\cf w' base l C else e=lJ:=by
 obtain⟨W0,hW0⟩:∃W,w.alloc (.cells sy B.T)=W:=⟨_,rfl⟩;have S0:W0.heap.size=w.heap.size+1:=by rw[←hW0];exact ep _ _
 have I:Below w.heap.size w W0:=by rw[←hW0];exact cC
 have T0:Hid (W0.there w.heap.size 0 19):=by rw[←hW0];exact jo w sy _ _ rfl
 have r:bE W0 a l:=(h.later I).1;have G:=af (wl a cap n l W0 u r (by omega));have E0:=af hW0;unfold sy at E0;have v:=af I;have y:=af S0;have Q:=af h;have S:=af u;clear hW0 S0 I;have m:=fun V=>Bkx.codeBook_any B A a cap n l W0 u r V;have s:=A.info;have K:=af A.ne;obtain⟨Y,D,L⟩:=A.und;rcases A with rfl|rfl|rfl;all_goals
  simp only[bkL,bkD,bkN]at E0 s m D ⊢;cases c:ap l
  .
   rw[c]at G;simp only[a07,a08];clear c
   (first|go_enter func269,ntmps269|go_enter func270,ntmps270|go_enter func279,ntmps279)
   go_wp2_with fail;rw[ae E0];apply G.mono;rintro e x1⟨rfl,d⟩;rw[d];clear d x1;go_wp2_with fail;apply(gm _).mono;rintro e x2⟨rfl,f⟩;rw[f];clear f x2;exact⟨rfl,v,rfl⟩
  .
   rw[c]at G;simp only[a0Y];have J:=af (m (by have:=cG c;omega));clear c r h u m
   (first|go_enter func269,ntmps269|go_enter func270,ntmps270|go_enter func279,ntmps279)
   go_wp2_with fail;rw[ae E0];apply G.mono;rintro e x1⟨rfl,d⟩;rw[d];clear d x1;go_wp2_with fail;apply(dO _).mono;rintro e x2⟨rfl,f⟩;rw[f];clear f x2;go_wp2_with fail;apply J.mono;rintro e x3⟨vs,C,rfl,t,H,h2,hb⟩;obtain⟨q,sc,rfl⟩:=h2.form;have F:C.size=19:=by rw[t];simp[eq]
   have k:C.all (·.oneCell')=true:=by rw[t];exact lG rfl rfl rfl
   have z:Hid (x3.there w.heap.size 0 19):=fun j M=>by
    obtain⟨t1,t2⟩:=ae T0 j M;have E:w.heap.size<W0.heap.size:=by have:=ae y;omega
    exact⟨by rw[hb.cell (p:=⟨w.heap.size,0+j,none⟩) E];exact t1,by rw[hb.frozen (p:=⟨w.heap.size,0+j,none⟩) E];exact t2⟩
   have i:=af F;have x:=af k;have R:=af (a0b t (a0b H (a0b h2 hb)));clear F k t H h2 hb;go_wp2_with (refine wpList_store_mid rfl _ (.tmp 2) (.tmp 7) rfl w.heap.size 0 C rfl rfl (by rw[ae i];exact z) (by rw[ae i];exact s) x ?_);obtain⟨t,H,h2,hb⟩:=ae R;have X:=World.rangeAt_setCells_same x3 w.heap.size 0 C.toList (by rw[a15,ae i];exact z);have N:∀j,j≠w.heap.size->(x3.setCells w.heap.size 0 C.toList).heap[j]?=x3.heap[j]?:=fun j M=>gU _ _ _ _ j M;have P:(x3.setCells w.heap.size 0 C.toList).heap.size=x3.heap.size:=size_setCells _ _ _ _;have o:=aj v hb;have s0:=ae y;refine a0x (gp rfl _ _ w.heap.size _ _ rfl X D L (by rw[a15,ae i];exact s)) rfl ⟨below_setCells (a0a _) _ _ _ o,C,by simp,?_⟩;have u:=ae S;subst u;have O:de (x3.setCells w.heap.size 0 C.toList) base a l:=Q.moved (by rw[P];exact o.size) (fun g _ U _=>(N g (by omega)).trans (o.block g U));exact⟨a,cap,_,_,q,sc,t,O,((bX (bJ l 15) (H.own (bJ l 15))).mono (b':=w.heap.size+1) (by omega)).touch P N (by omega) |>.mono (by omega),((bX rfl h2 K).mono (b':=w.heap.size+1) (by omega)).touch P N (by omega) |>.mono (by omega)⟩
def wV:=@vF bkL (.inl rfl)
def Ln:=@Aq bkL (.inl rfl)
def Dl:=@vF bkD (.inr (.inl rfl))
def Gy:=@Aq bkD (.inr (.inl rfl))
def He:=@vF bkN (.inr (.inr rfl))
def Lg:=@Aq bkN (.inr (.inr rfl))
end Go.Proofs.YtfannoajibacnaaGreatDoor
namespace Go.Proofs.YtfannoajibacnaaGreatDoor
open Go.Proofs.Tryz
open Go.RowKit Corb
variable {A D L l:List Int}{B V b g k kk n o p q q' sz:Nat}{C:Array Value}{R T T':List UInt8}{a:Option Addr}{d:Option (List UInt8×Nat)}{f:Bool}{s:ByteArray}{t:TypeId}{v v':Value}{w w' w1 w2 x x':World}
def Sou(w:World)(b:Nat)(s:ByteArray)(p:Nat)(T:List UInt8):Prop:=
 Rdr w b s p/\∃v,w.cell? ⟨b,3,none⟩=some v/\w.frozen? ⟨b,3,none⟩=false/\bC w (b+1) v T
def bC.keep1{base:Nat}{l:List UInt8}(h:bC w base v l)(a:aw b w w')(hb:b<base):bC w' base v l:=a.own h hb
def Sou.keep1(h:Sou w b s p T)(a:aw b w w')(d:Rdr w' b s q):Sou w' b s q T:=by
 obtain⟨_,v,c,f,o⟩:=h;exact⟨d,v,(a.3 3 (a0a _)).1.trans c,(a.3 3 (a0a _)).2.trans f,o.keep1 a (a0j _)⟩
def Sou.lt(h:Sou w b s p T):b<w.heap.size:=h.1.lt
structure KU (b:Nat) (w w':World):Prop where
 below:Below b w w'
 keep:∀k,k<w.heap.size->k≠b->(∀cur fr,w.heap[k]?≠some (.cells cur 5 fr))->w'.heap[k]?=w.heap[k]?
def KU.refl(b:Nat)(w:World):KU b w w:=⟨a0c _ _,fun _ _ _ _=>rfl⟩
def KU.trans(h:KU b w w1)(k:KU b w1 w2):KU b w w2:=
 ⟨h.1.trans k.1,fun j c a d=>(k.2 j (a0h c h.1.size) a (by rw[h.2 j c a d];exact d)).trans (h.2 j c a d)⟩
def aw.ku(h:aw b w w'):KU b w w':=⟨h.1,fun j c a _=>h.2 j c a⟩
def KU.later(h:KU b w w1)(hb:Below w1.heap.size w1 w2)(a:b<w1.heap.size):KU b w w2:=
 ⟨h.1.trans (hb.mono (a0s a)),fun j d c e=>(hb.block j (a0h d h.1.size)).trans (h.2 j d c e)⟩
def Sou.later(h:Sou w b s p T)(hb:Below w.heap.size w w'):Sou w' b s p T:=by
 obtain⟨r,v,c,f,o⟩:=h;exact⟨r.kept (hb.mono r.lt),v,(hb.cell (p:=⟨b,3,none⟩) r.lt).trans c,(hb.frozen (p:=⟨b,3,none⟩) r.lt).trans f,o.later hb (a0a _)⟩
def de.ku{base:Nat}(h:de w base a l)(c:KU b w w')(hb:b<base):de w' base a l:=h.moved c.1.size (fun g f d e=>c.2 g d (by omega) e)
def cf.ku{base:Nat}(h:cf w base l C)(c:KU b w w')(hb:b<base):cf w' base l C:=by
 obtain⟨a,cap,ac,d,q,sc,e,f,h2,g⟩:=h;exact⟨a,cap,ac,d,q,sc,e,f.ku c hb,h2.ku c hb,g.ku c hb⟩
def ff.ku{base:Nat}(h:ff w base L D C)(a:KU b w w')(hb:b<base):ff w' base L D C:=by
 obtain⟨c,d,e,f,h2⟩:=h;exact⟨c,d,e,f.ku a hb,h2.ku a hb⟩
def ff.keep1{base:Nat}(h:ff w base L D C)(a:aw b w w')(hb:b<base):ff w' base L D C:=h.ku a.ku hb
def Gi{base:Nat}{l:List UInt8}(h:bC w base v l)(hb:b<base)(u:Value):bC (w.setCell ⟨b,o,none⟩ u) base v l:=by
 refine⟨h.1,?_⟩;rcases h.2 with e|⟨g,cap,a,rfl,c,d,rest⟩
 . exact .inl e
 . exact .inr ⟨g,cap,a,rfl,c,(a0M _ _ _ g (by show g≠b;omega)).trans d,rest⟩
def dH(w:World)(b:Nat)(s:ByteArray)(d:Option (List UInt8×Nat))(e:Ending)(w':World):Prop:=
 KU b w w'/\match d with
  | none=>e=lJ
  | some (T,q)=>e = .returned (.tuple #[])/\Sou w' b s q T
def Jh(b p:Nat)(s:ByteArray)(T:List UInt8)(t:Tk)(w:World)(h:Sou w b s p T)(C:T.length<=300)(z:okT t=true) :
  Calls prog 265 #[.pointer b,hH t] w (dH w b s ((fX T t).map fun x=>(x,p))):=by
 have u:=h.lt;obtain⟨A,v,c3,f3,m⟩:=h;obtain⟨n,g⟩:∃n,T.length=n:=⟨_,rfl⟩;obtain⟨a,cap,rfl⟩:=m.formN g;have i:=af (U.lzLay_any (b+1) n cap a T t w g m (by omega) u z);have E:=af A;have D:=af f3;unfold dH;rcases l:fX T t with _|T'
 .
  rw[l]at i;simp only[Option.map_none];clear l m C g z A f3;generalize hH t=tv at *;go_enter func265,ntmps265;go_wp2_with fail;apply i.mono;rintro e x1⟨v1,rfl,o1,d⟩;simp only[Option.isSome_none];have o:Hid (KU b w x1):=⟨d.1.mono (a06 _),fun j r _ g=>d.2 j r g⟩;clear o1 d i;go_wp2_with fail;apply(gm _).mono;rintro e x2⟨rfl,c⟩;rw[c];clear c x2;exact⟨rfl,o,rfl⟩
 .
  rw[l]at i;simp only[a33];clear l m C g z A f3;generalize hH t=tv at *;go_enter func265,ntmps265;go_wp2_with fail;apply i.mono;rintro e x1⟨v1,rfl,o1,d⟩;simp only[Option.isSome_some,a1K]at o1 ⊢;have o:Hid (KU b w x1):=⟨d.1.mono (a06 _),fun j r _ g=>d.2 j r g⟩;have k:=E.kept d.1;have q:=(d.1.cell (p:=⟨b,3,none⟩) (a0j b)).trans c3;have f31:=(d.1.frozen (p:=⟨b,3,none⟩) (a0j b)).trans D;obtain⟨a1,f,rfl⟩:=o1.form;have B:=af (a0b k o1);clear o1 d i k;go_wp2_with fail;apply(dO _).mono;rintro e x2⟨rfl,c⟩;rw[c];clear c x2;go_wp2
  go_end0
  have F:KU b w (x1.setCell ⟨b,3,none⟩ (.slice a1 T'.length f)):=o.trans ⟨ai (a0c _ _) (a0a _) _,fun j _ y _=>a0M _ _ _ j y⟩;refine⟨F,rfl,?_,.slice a1 T'.length f,World.cell?_setCell_same _ _ _ q,by simpa using f31,?_⟩
  . obtain⟨c0,c1,c2,g0,g1,g2,hb⟩:=B.1;exact⟨by rw[World.cell?_setCell_other _ _ _ _ (by simp)];exact c0,by rw[World.cell?_setCell_other _ _ _ _ (by simp)];exact c1,by rw[World.cell?_setCell_other _ _ _ _ (by simp)];exact c2,by simpa using g0,by simpa using g1,by simpa using g2,by simpa using hb⟩
  . exact Gi (ae B).2 (a0j _) _
def TkP(w:World)(b:Nat)(s:ByteArray)(d:Option (Tk×Nat))(e:Ending)(w':World):Prop:=
 aw b w w'/\match d with
  | none=>e=lJ
  | some (t,q)=>e = .returned (hH t)/\Rdr w' b s q
def okG(d:Option (Tk×Nat)):Option (Tk×Nat):=d.bind fun t=>if okT t.1=true then some t else none
def IR{base:Nat}(h:ff w base L D C):∃a b,C=a++b/\cf w base L a/\cf w base D b/\(w.alloc (.cells C 200)).rangeAt w.heap.size 0 a.toList/\(w.alloc (.cells C 200)).rangeAt w.heap.size 19 b.toList:=by
 obtain⟨a,b,rfl,c,h2⟩:=h;obtain⟨d,e⟩:=jy (alloc_at w (.cells (a++b) 200)) c.size;exact⟨a,b,rfl,c,h2,d,e⟩
def uo{c:List Value}(h:w.rangeAt g o c)(e:aw b w w')(d:g<w.heap.size)(a:g≠b):w'.rangeAt g o c:=fun j v f=>by
 rw[←h j v f];exact World.cell?_of_block (w:=w) (e.2 g d a)
def IJ(b p k:Nat)(C:Array Value)(s:ByteArray)(w:World)(a:Rdr w b s p)(g:k<256) :
  Calls prog 277 #[.pointer b,k,.agg C] w fun e w'=>aw b w w'/\e = .returned (hH ((k:Nat),0,0))/\Rdr w' b s p:=by
 have c:isB (((k:Nat):Int),0,0)=true:=by unfold isB inB;simp;omega
 rw[oH c];have h:(k:Int)<256:=by omega
 have i:IntKind.u8.wrap (k:Int)=(k:Int):=Ab (by omega) (by omega);have d:Hid (aw b w (w.alloc (.cells C 200))):=(aw.refl b w).alloc a.lt _;have f:Hid (Rdr (w.alloc (.cells C 200)) b s p):=a.alloc _;clear a g c;go_enter func277,ntmps277;go_wp2;go_ret;exact⟨d,rfl,f⟩
def IK(b p k base:Nat)(L D:List Int)(C:Array Value)(s:ByteArray)(w:World)(hr:Rdr w b s p)(hk:k<=900)(X:ff w base L D C)(ac:b<base)(f:ap D=true)(hs:s.size<=2000000) :
  Calls prog 277 #[.pointer b,.int .i64 ((k:Nat)+257),.agg C] w (TkP w b s (okG (gK (ak s) (8*s.size) D k p))):=by
 have a3:=cE
 obtain⟨d,hd⟩:∃d,okG (gK (ak s) (8*s.size) D k p)=d:=⟨_,rfl⟩;rw[hd];have Hd:=af hd;obtain⟨T,o,rfl,G,h2,r1,r2⟩:=IR X;have a2:=hr.lt;have hA:Below w.heap.size w (w.alloc (.cells (T++o) 200)):=cC;have a4:w.heap.size≠b:=by omega
 have bl:(prog.info? 198).map (·.size)=some o.size:=by rw[h2.size];exact Tryz.infoDistB
 have O:=af (a0b ((aw.refl b w).alloc a2 (.cells (T++o) 200)) (a0b (hr.alloc (.cells (T++o) 200)) (a0b (h2.later hA) r2)));have B:w.heap.size<(w.alloc (.cells (T++o) 200)).heap.size:=by simp
 have HS:=af hs;have U:=af f;have J:=af ac;clear hr X G h2 r1 r2 hd hs f ac;go_enter func277,ntmps277;go_wp2_with fail;generalize w.alloc (.cells (T++o) 200)=w1,bk:w.heap.size=g at *;clear bk hA a2;apply(pK w1).mono;rintro e w2⟨rfl,R⟩;have a0:=O.1.later R O.2.1.lt;have a5:=O.2.1.kept (R.mono O.2.1.lt);have a7:=O.2.2.1.later R;have ad:w2.rangeAt g 19 o.toList:=lu O.2.2.2 R B;have z:g<w2.heap.size:=a0h B R.size;have n:=af (xO 3 4 28 b p k s w2 a5 HS (by omega) (by omega) (by omega) (by omega) (fun k h=>by omega) (by omega));have r:=af (a0b a0 (a0b a7 ad));clear R a0 a5 a7 ad O B;have ek:(k:Int)+257-256-1=(k:Int):=by omega
 unfold kG at n;rcases G:scG (ak s) (8*s.size) 3 4 28 k p with _|⟨x,q1⟩
 .
  rw[G]at n;have F:Hid (d=none):=by show d=none;rw[←ae Hd];unfold okG gK;rw[G];rfl
  clear G;go_wp2_with fail;apply n.mono;rintro e x3⟨Q,rfl⟩;refine⟨rfl,?_⟩;unfold TkP;rw[ae F];exact⟨r.1.trans Q,rfl⟩
 .
  rw[G]at n;have aa:=It G;have H1:=af G;have ba:=af aa.1;clear G aa;go_wp2_with fail;apply n.mono;rintro e x3⟨Q,rfl,r3⟩;have a1:=r.1.trans Q;have a8:=r.2.1.keep1 Q J;have al:=uo r.2.2 Q z a4;have ao:g<x3.heap.size:=a0h z Q.1.size;have c:=af (a0b a1 (a0b a8 (a0b al r3)));clear Q a1 a8 al r3 n r z;have m:Hid (∀W,aw b x3 W->W.rangeAt g 19 o.toList):=fun W h=>uo c.2.2.1 h ao a4;have P:aw b x3 x3.drew:=(aw.refl b x3).drew;go_wp2_with fail;refine wp_region_held_drew (S:=fun W=>W.rangeAt g 19 o.toList) a3 (m _ P) (fun Y=>?_);refine ag 0 (.pointer b) rfl (fun W Z=>by go_simp) Y ?_;refine ag 2 (.pointer b) rfl (fun W Z=>by go_simp) Y ?_;refine ag 3 (.pointer (some ⟨g,19,none⟩)) rfl (fun W Z=>by go_simp) Y ?_;refine aq 4 (.agg o) rfl (dR (by rfl) 198 (.tmp 25) rfl g 19 rfl o _ (fun _ h=>h) underlying198 rfl bl) Y ?_;refine ah 1 fun K u=>?_;go_simp;go_at_call 216;apply(pD _).mono;rintro e x4⟨rfl,b4⟩;have k4:aw b x3 x4:=P.later b4 c.2.2.2.lt;have r4:Rdr x4 b s q1:=Rdr.kept (w:=x3.drew) (show Rdr x3.drew b s q1 from c.2.2.2) (b4.mono c.2.2.2.lt);have v4:=c.2.1.keep1 k4 J;have l:=af (Dl b q1 base o D s x4 v4 J U HS r4 ba);refine Shut.out u _ _ (m _ k4) (fun bb=>?_);clear u K b4 v4;refine ah 5 fun K u=>?_;go_simp;go_at_call 283;unfold SyP at l;rcases h2:dec D (ak s) (8*s.size) q1 with _|⟨j,q2⟩
  .
   rw[h2]at l;have F:Hid (d=none):=by show d=none;rw[←ae Hd];unfold okG gK;rw[ae H1];simp only[a0f];rw[h2];rfl
   apply l.mono;rintro e x5⟨k5,rfl⟩;refine⟨rfl,?_⟩;unfold TkP;rw[ae F];exact⟨c.1.trans (k4.trans k5),rfl⟩
  .
   rw[h2]at l;have ab:=gB h2;have H2:=af h2;apply l.mono;rintro e x5⟨k5,rfl,r5⟩;have H:=k4.trans k5;refine Shut.out u _ _ (m _ H) (fun bc=>?_);clear u K k5 k4 r4 l;obtain⟨jn,hj⟩:=a0r ab.2.2.1;subst hj;have A:jn<=1000:=by have:=cG U;omega
   have a:=af (xO 1 2 30 b q2 jn s x5 r5 HS (by omega) (by omega) (by omega) (by omega) (fun k h=>by omega) A);refine ah 6 fun K u=>?_;go_simp;go_at_call 282;unfold kG at a;rcases V:scG (ak s) (8*s.size) 1 2 30 jn q2 with _|⟨y,q3⟩
   .
    rw[V]at a;have F:Hid (d=none):=by show d=none;rw[←ae Hd];unfold okG gK;rw[ae H1];simp only[a0f];rw[ae H2];simp only[a0f,a0n];rw[V];rfl
    apply a.mono;rintro e x6⟨k6,rfl⟩;refine⟨rfl,?_⟩;unfold TkP;rw[ae F];exact⟨c.1.trans (H.trans k6),rfl⟩
   .
    rw[V]at a;have H3:=af V;apply a.mono;rintro e x6⟨k6,rfl,r6⟩;have I:=H.trans k6;refine Shut.out u _ _ (m _ I) (fun bd=>?_);clear u K;refine ah 7 fun K u=>?_;go_simp;refine Shut.out u _ _ (m _ I) (fun be=>?_);clear u K;refine wpAnyH_done (by kernel_rfl) ?_ _;have HE:Hid (d=if okT (0,(x:Int),(y:Int))=true then some ((0,(x:Int),(y:Int)),q3)else none):=by
     show d=_;rw[←ae Hd];unfold okG gK;rw[ae H1];simp only[a0f];rw[ae H2];simp only[a0f,a0n];rw[ae H3];rfl
    have q:=af (a0b (c.1.trans I) r6);have N:=af (fun W=>Pa (0,(x:Int),(y:Int)) W);clear Y bb bc bd be I H k6 r6 r5 m P h2 V ab A a;simp only at N;go_wp2_with fail;apply(N _).mono;rintro e x7⟨rfl,b7⟩;have M:=af (a0b (q.1.later b7 q.2.lt) (q.2.kept (b7.mono q.2.lt)));clear b7 q N;cases f:okT (0,(x:Int),(y:Int))
    .
     have F:Hid (d=none):=by show d=none;rw[ae HE,f];rfl
     clear f;generalize hH (0,(x:Int),(y:Int))=tv at *;go_wp2_with fail;apply(gm _).mono;rintro e x8⟨rfl,E⟩;rw[E];clear E x8;refine⟨rfl,?_⟩;unfold TkP;rw[ae F];exact⟨M.1,rfl⟩
    .
     have F:Hid (d=some ((0,(x:Int),(y:Int)),q3)):=by show d=_;rw[ae HE,f];rfl
     clear f;obtain⟨t,ht⟩:∃t:Tk,(0,(x:Int),(y:Int))=t:=⟨_,rfl⟩;rw[ht]at F ⊢;clear ht;generalize a6:hH t=tv at *;have a9:=af a6;clear a6;go_wp2_with fail;apply(dO _).mono;rintro e x8⟨rfl,E⟩;rw[E];clear E x8;go_wp2;go_ret;unfold TkP;rw[ae F];exact⟨M.1,by rw[ae a9];rfl,M.2⟩
def yN(b p:Nat)(s:ByteArray)(T:List UInt8)(w:World)(h:Sou w b s p T)(hT:T.length<=300)(hp:p<=8*s.size)(hs:s.size<=2000000) :
  Calls prog 243 #[.pointer b] w (dH w b s (dX (ak s) (8*s.size) p T)):=by
 obtain⟨d,hd⟩:∃d,dX (ak s) (8*s.size) p T=d:=⟨_,rfl⟩;rw[hd];have g:=af hd;have F:=af (pO b p s w h.1 hs hp);have HS:=af h;have Q:=af (a0b hs hT);clear h hT hp hs hd;go_enter func243,ntmps243;unfold dX at g;rcases G:gz (ak s) p with _|q
 .
  rw[G]at F;have o:Hid (d=none):=by show d=none;rw[←ae g,G];rfl
  clear G g;go_wp2_with fail;apply F.mono;rintro e x1⟨M,rfl⟩;refine⟨rfl,?_⟩;unfold dH;rw[ae o];exact⟨M.ku,rfl⟩
 rw[G]at F g;clear G;simp only[a0f]at g;go_wp2_with fail;apply F.mono;rintro e x1⟨M,rfl,r1⟩;have m:=af (a0b M.ku (HS.keep1 M r1));clear M r1 HS F;have f:=af (cJ b q 16 s x1 m.2.1 Q.1 (by omega));rcases h2:rdN (ak s) (8*s.size) q 16 with _|⟨a,q2⟩
 .
  rw[h2]at f;unfold kG at f;have o:Hid (d=none):=by show d=none;rw[←ae g,h2];rfl
  clear h2 g;go_wp2_with fail;apply f.mono;rintro e x2⟨N,rfl⟩;refine⟨rfl,?_⟩;unfold dH;rw[ae o];exact⟨m.1.trans N.ku,rfl⟩
 rw[h2]at f g;unfold kG at f;have ha:a<=65535:=by have:=(bV h2).2.2.2;omega
 clear h2;simp only[a0f]at g;go_wp2_with fail;apply f.mono;rintro e x2⟨N,rfl,r2⟩;have n:=af (a0b (m.1.trans N.ku) (m.2.keep1 N r2));clear N r2 m f;have f:=af (cJ b q2 16 s x2 n.2.1 Q.1 (by omega));rcases B:rdN (ak s) (8*s.size) q2 16 with _|⟨c,q3⟩
 .
  rw[B]at f;unfold kG at f;have o:Hid (d=none):=by show d=none;rw[←ae g,B];rfl
  clear B g;go_wp2_with fail;apply f.mono;rintro e x3⟨O,rfl⟩;refine⟨rfl,?_⟩;unfold dH;rw[ae o];exact⟨n.1.trans O.ku,rfl⟩
 rw[B]at f g;unfold kG at f;simp only[a0f]at g;go_wp2_with fail;apply f.mono;rintro e x3⟨O,rfl,r3⟩;have v:=af (a0b (n.1.trans O.ku) (n.2.keep1 O r3));clear O r3 n f;have U:bits .xor .i64 (a:Int) 65535=((65535-a:Nat):Int):=by
  rw[←QN a ha];exact nU a 65535 (by omega) (by omega)
 by_cases r:c=65535-a
 .
  rw[a0d r]at g;have hb:((c:Int) == bits .xor .i64 (a:Int) 65535)=true:=by rw[U,r];exact beq_self_eq_true _
  clear B U r;go_wp2_with fail;apply(dO _).mono;rintro e x4⟨rfl,t⟩;rw[t];clear t x4 hb;go_wp2_with fail
  go_loopw [14] (fun i wr=>∃(k q:Nat) (R:List UInt8),k<=a/\i = .int .i64 k/\KU b w wr/\Sou wr b s q R/\R.length<=300/\dV (ak s) (8*s.size) (a-k) q R=d) (fun i _=>a-(intOf i).toNat)
  case atStart=>exact⟨0,q3,T,a0g _,rfl,v.1,v.2,Q.2,g⟩
  case round=>
   obtain⟨k,q,R,hk,rfl,J,A,hR,hg⟩:=hrel;clear v g;have u:=af J;have x:=af A;have j:=af hg;have HR:=af hR;clear J A hg hR hk;by_cases Z:k<a
   .
    have K:(k:Int)<(a:Int):=(by omega);have e1:a-k=(a-(k+1))+1:=(by omega);have f:=af (cJ b q 8 s wr x.1 Q.1 (by omega));rw[e1]at j;simp only[dV]at j;clear e1;rcases H:rdN (ak s) (8*s.size) q 8 with _|⟨y,q4⟩
    .
     rw[H]at f j;unfold kG at f;have o:Hid (d=none):=by show d=none;rw[←ae j];rfl
     clear H j;go_wp2_with fail;apply f.mono;rintro e x5⟨P,rfl⟩;refine⟨rfl,?_⟩;unfold dH;rw[ae o];exact⟨u.trans P.ku,rfl⟩
    rw[H]at f j;unfold kG at f;have hy:y<256:=by have:=(bV H).2.2.2;omega
    have hu:IntKind.u8.wrap (y:Int)=(y:Int):=Ab (by omega) (by omega);have Y:isB (((y:Nat):Int),0,0)=true:=by unfold isB inB;simp;omega
    have L:okT (((y:Nat):Int),0,0)=true:=by unfold okT;rw[Y];rfl
    have E:=af (oH Y);clear H Y;simp only[a0f]at j;go_wp2_with fail;apply f.mono;rintro e x5⟨P,rfl,r5⟩;have l:=af (u.trans P.ku);have z:=af (x.keep1 P r5);clear P r5 f u x;have W:=af (Jh b q4 s R (((y:Nat):Int),0,0) x5 z HR L);rw[ae E]at W;clear L E;go_wp2_with fail;refine W.mono ?_;intro e x6 I;unfold dH at I;rcases S:fX R (((y:Nat):Int),0,0)with _|R'
    .
     rw[S]at I j;obtain⟨V,rfl⟩:=I;have o:Hid (d=none):=by show d=none;rw[←ae j];rfl
     refine⟨rfl,?_⟩;unfold dH;rw[ae o];exact⟨l.trans V,rfl⟩
    rw[S]at I j;obtain⟨V,rfl,s6⟩:=I;simp only[a0f]at j;have X:=af (qJ S);have C:=af (l.trans V);have D:=af s6;clear V s6 S l z W HR;go_wp2_with fail;go_roundw
    case rel=>exact⟨k+1,q4,R',Z,by go_num,C,D,X,j⟩
    case measure=>simp[intOf];omega
   .
    have K:¬ (k:Int)<(a:Int):=(by omega);have e0:a-k=0:=(by omega);rw[e0]at j;simp only[dV]at j;go_wp2
    go_end0
    unfold dH;rw[←ae j];exact⟨u,rfl,x⟩
 .
  rw[a0e r]at g;have hb:((c:Int) == bits .xor .i64 (a:Int) 65535)=false:=by rw[U,a0X];omega
  have o:Hid (d=none):=by show d=none;rw[←ae g]
  clear g U r B;go_wp2_with fail;apply(gm _).mono;rintro e x4⟨rfl,t⟩;rw[t];clear t x4;refine⟨rfl,?_⟩;unfold dH;rw[ae o];exact⟨v.1,rfl⟩
def un(V sz:Nat)(L D:List Int)(k:Int)(q:Nat)(R:List UInt8):Option (List UInt8×Nat):=
 if k=256 then some (R,q)else(oneG V sz D k q).bind fun t=>(fX R t.1).bind fun T'=>iP V sz L D t.2 T'
def zV: iP V sz L D p T=(dec L V sz p).bind fun k=>un V sz L D k.1 k.2 T:=by
 rcases h:dec L V sz p with _|⟨i,q⟩
 . rw[zW h];rfl
 .
  simp only[a0f];unfold un;by_cases a:i=256
  . subst a;rw[yb h,a0d rfl]
  . rw[tL h a,a0e a]
def LD{k:Int}(b:k≠256)(h:okG (oneG V sz D k q)=none):un V sz L D k q R=none:=by
 unfold un;rw[a0e b];unfold okG at h;rcases a:oneG V sz D k q with _|⟨t,r⟩
 . rfl
 .
  rw[a]at h;simp only[a0f]at h ⊢
  split at h
  . cases h
  . rw[MK (Bool.eq_false_iff.2 (by assumption))];rfl
def Ii{k:Int}{r:Nat}{t:Tk}(b:k≠256)(h:okG (oneG V sz D k q)=some (t,r)):oneG V sz D k q=some (t,r)/\okT t=true/\un V sz L D k q R=(fX R t).bind fun T'=>iP V sz L D r T':=by
 unfold okG at h;rcases a:oneG V sz D k q with _|⟨t',c⟩
 . rw[a]at h;cases h
 .
  rw[a]at h;simp only[a0f]at h
  split at h
  . simp only[a0l,a0R]at h;obtain⟨rfl,rfl⟩:=h;refine⟨rfl,by assumption,?_⟩;unfold un;rw[a0e b,a];rfl
  . cases h
def Mq(b p base:Nat)(k:Int)(L D:List Int)(C:Array Value)(s:ByteArray)(w:World)(g:Rdr w b s p)(i:0<=k)(q:k<=1000)(l:k≠256)(c:ff w base L D C)(d:b<base)(f:ap D=true)(o:s.size<=2000000) :
  Calls prog 277 #[.pointer b,k,.agg C] w (TkP w b s (okG (oneG (ak s) (8*s.size) D k p))):=by
 obtain⟨n,rfl⟩:=a0r i;by_cases h:n<256
 .
  have j:isB (((n:Nat):Int),0,0)=true:=by unfold isB inB;simp;omega
  have a:okT (((n:Nat):Int),0,0)=true:=by unfold okT;rw[j];rfl
  have e:okG (oneG (ak s) (8*s.size) D (n:Int) p)=some ((((n:Nat):Int),0,0),p):=by
   unfold oneG okG;rw[a0d (by omega)];simp only[a0f];rw[a0d a]
  rw[e];exact IJ b p n C s w g h
 .
  obtain⟨m,rfl⟩:∃m,n=m+257:=⟨n-257,by omega⟩;have e:oneG (ak s) (8*s.size) D ((m+257:Nat):Int) p=gK (ak s) (8*s.size) D m p:=by
   unfold oneG;rw[a0e (by omega)];rw[show(((m+257:Nat):Int).toNat-257)=m by omega]
  rw[e];exact IK b p m base L D C s w g (by omega) c d f o
def mZ(b:Nat)(w:World):Nat:=match w.cell? ⟨b,1,none⟩with
 | some v=>(intOf v).toNat
 | none=>0
def Sou.place(h:Sou w b s p T)(c:p<=8*s.size):mZ b w=p:=by
 have a:=(h.1.at c).2.1;unfold mZ;rw[a];simp[intOf]
def uF(h:w.heap[g]?=some (Obj.cells C t)):w.rangeAt g 0 C.toList:=by
 intro j v a;rw[a0G,bH h];simpa using a
def KU.books(h:KU b w w')(a:w.heap[g]?=some (Obj.cells C 200))(e:g≠b):w'.heap[g]?=some (Obj.cells C 200):=by
 have d:g<w.heap.size:=by
  rcases a1o g w.heap.size with c|c
  . exact c
  . rw[Array.getElem?_eq_none c]at a;cases a
 rw[h.2 g d e (by intro i fr f;rw[a]at f;simp at f)];exact a
def TkI(b g base:Nat)(s:ByteArray)(L D:List Int)(C:Array Value)(d:Option (List UInt8×Nat))(w:World)(i:Value)(wr:World):Prop:=
 ∃(k:Int) (q:Nat) (R:List UInt8),i = .int .i64 k/\0<=k/\k<=1000/\KU b w wr/\Sou wr b s q R/\R.length<=300/\q<=8*s.size/\wr.heap[g]?=some (Obj.cells C 200)/\ff wr base L D C/\un (ak s) (8*s.size) L D k q R=d
def yd(b p base:Nat)(s:ByteArray)(L D:List Int)(C:Array Value)(T:List UInt8)(w:World)(h:Sou w b s p T)(hT:T.length<=300)(hp:p<=8*s.size)(hs:s.size<=2000000)(X:ff w base L D C)(Z:b<base)(hL:ap L=true)(hD:ap D=true) :
  Calls prog 266 #[.pointer b,.agg C] w (dH w b s (iP (ak s) (8*s.size) L D p T)):=by
 obtain⟨d,hd⟩:∃d,iP (ak s) (8*s.size) L D p T=d:=⟨_,rfl⟩;rw[hd];have hd:=zV.symm.trans hd;have a1:=h.lt;have A:w.heap.size≠b:=by omega
 have hA:Below w.heap.size w (w.alloc (.cells C 200)):=cC;have Y:=h.later hA;have V:=X.later hA;have x:KU b w (w.alloc (.cells C 200)):=(KU.refl b w).later hA a1;have v:=alloc_at w (.cells C 200);have m:=af (a0b hs (a0b Z (a0b hL hD)));have HT:=af hT;have P:=af (cG hL);obtain⟨j,C2,rfl,b1,b2⟩:=X;have z:=b1.size;have ab:=b2.size;have M:=af (a0b z (show(j++C2).size=38 by rw[a2j,z,ab]));have F:Hid (∀W:World,W.heap[w.heap.size]?=some (Obj.cells (j++C2) 200)->W.rangeAt w.heap.size 0 j.toList):=fun W h=>(jy h z).1;have O:Hid (∀W,ff W base L D (j++C2)->cf W base L j):=by
  intro W hW;obtain⟨E1,E2,e,f1,f2⟩:=hW;have:=f1.size;have e1:j=E1:=by
   have E:=congrArg Array.toList e;simp only[a1H]at E;have h2:=a2b E (by simp[z,this]);exact Array.ext' h2.1
  rw[e1];exact f1
 clear b1 b2 h Z hL hD hT z ab hs;generalize hC:j++C2=C at *;go_enter func266,ntmps266;have f:=af (a0b x (a0b Y (a0b V v)));clear x Y V v hA;have c:=af (wV b p base j L s (w.alloc (.cells C 200)) (O _ (ae f).2.2.1) m.2.1 m.2.2.1 m.1 f.2.1.1 hp);clear hp;unfold SyP at c;rcases E:dec L (ak s) (8*s.size) p with _|⟨k,q⟩
 .
  rw[E]at c hd;have H:Hid (d=none):=by show d=none;rw[←hd];rfl
  clear E hd;go_wp2_with (refine br rfl 195 (.tmp 6) rfl w.heap.size 0 rfl j _ (F _ (ae f).2.2.2) a2m rfl (by rw[M.1];exact Tryz.infoLitB) ?_);apply c.mono;rintro e x1⟨B,rfl⟩;refine⟨rfl,?_⟩;unfold dH;rw[ae H];exact⟨f.1.trans B.ku,rfl⟩
 rw[E]at c hd;have hb:=gB E;clear E;simp only[a0f]at hd;go_wp2_with (refine br rfl 195 (.tmp 6) rfl w.heap.size 0 rfl j _ (F _ (ae f).2.2.2) a2m rfl (by rw[M.1];exact Tryz.infoLitB) ?_);apply c.mono;rintro e x1⟨B,rfl,r1⟩;have HI:Hid (TkI b w.heap.size base s L D C d w (.int .i64 k) x1):=
  ⟨k,q,T,rfl,hb.2.2.1,by have:=ae P;omega,f.1.trans B.ku,f.2.1.keep1 B r1,HT,hb.1,B.ku.books f.2.2.2 A,f.2.2.1.keep1 B m.2.1,hd⟩
 clear B r1 c hb hd f HT;go_wp2_with fail
 go_loopw [4] (fun i wr=>TkI b w.heap.size base s L D C d w i wr) (fun _ wr=>8*s.size-mZ b wr)
 case atStart=>exact HI
 case round=>
  obtain⟨k,q,R,rfl,k0,B,x,y,hR,hq,v,aa,hn⟩:=hrel;clear HI;have f:=af (a0b x (a0b y (a0b hR (a0b hq (a0b v aa)))));have a:=af hn;have ad:=af (y.place hq);clear x y hR hq v aa hn;by_cases hk:k=256
  .
   subst hk;go_wp2
   go_end0
   unfold dH;rw[←ae a];unfold un;rw[a0d rfl];exact⟨f.1,rfl,f.2.1⟩
  have a2:(k == 256)=false:=by rw[a0X];exact hk
  have n:=af (Mq b q base k L D C s wr f.2.1.1 k0 B hk f.2.2.2.2.2 m.2.1 m.2.2.2 m.1);have G:=af (uF f.2.2.2.2.1);unfold TkP at n;rcases h2:okG (oneG (ak s) (8*s.size) D k q)with _|⟨t,r⟩
  .
   rw[h2]at n;have H:Hid (d=none):=by show d=none;rw[←ae a];exact LD hk h2
   clear h2;go_wp2_with (refine br rfl 200 (.tmp 3) rfl w.heap.size 0 rfl C _ G a3q rfl (by rw[M.2];exact Tryz.infoBooks) ?_);apply n.mono;rintro e x2⟨J,rfl⟩;refine⟨rfl,?_⟩;unfold dH;rw[ae H];exact⟨f.1.trans J.ku,rfl⟩
  rw[h2]at n;obtain⟨n1,n2,n3⟩:=Ii (L:=L) (R:=R) hk h2;have Q:=af (vo n1 f.2.2.2.1);rw[n3]at a;have a0:=af n2;clear h2 n1 n2 n3;go_wp2_with (refine br rfl 200 (.tmp 3) rfl w.heap.size 0 rfl C _ G a3q rfl (by rw[M.2];exact Tryz.infoBooks) ?_);apply n.mono;rintro e x2⟨J,rfl,r2⟩;have o:=af (a0b (f.1.trans J.ku) (a0b (f.2.1.keep1 J r2) (a0b (J.ku.books f.2.2.2.2.1 A) (f.2.2.2.2.2.keep1 J m.2.1))));have ao:=af (a0b (ae f).2.2.1 (ae f).2.2.2.1);clear J r2 n f G;have l:=af (Jh b r s R t x2 o.2.1 ao.1 a0);generalize hH t=tv at *;unfold dH at l;rcases S:fX R t with _|R'
  .
   rw[S]at l a;have H:Hid (d=none):=by show d=none;rw[←ae a];rfl
   clear S;go_wp2_with fail;apply l.mono;rintro e x3⟨N,rfl⟩;refine⟨rfl,?_⟩;unfold dH;rw[ae H];exact⟨o.1.trans N,rfl⟩
  rw[S]at l a;have al:=af (qJ S);clear S;simp only[a0f]at a;rw[zV]at a;go_wp2_with fail;apply l.mono;rintro e x3⟨N,rfl,s3⟩;have g:=af (a0b (o.1.trans N) (a0b s3 (a0b (N.books o.2.2.1 A) (o.2.2.2.ku N m.2.1))));clear N s3 l o;have c:=af (wV b r base j L s x3 (O _ (ae g).2.2.2) m.2.1 m.2.2.1 m.1 g.2.1.1 Q.1);have u:=af (ae F _ (ae g).2.2.1);unfold SyP at c;rcases U:dec L (ak s) (8*s.size) r with _|⟨k',q'⟩
  .
   rw[U]at c a;have H:Hid (d=none):=by show d=none;rw[←ae a];rfl
   clear U;go_wp2_with (refine br rfl 195 (.tmp 12) rfl w.heap.size 0 rfl j _ u a2m rfl (by rw[M.1];exact Tryz.infoLitB) ?_);apply c.mono;rintro e x4⟨K,rfl⟩;refine⟨rfl,?_⟩;unfold dH;rw[ae H];exact⟨g.1.trans K.ku,rfl⟩
  rw[U]at c a;have hb:=gB U;clear U;simp only[a0f]at a;go_wp2_with (refine br rfl 195 (.tmp 12) rfl w.heap.size 0 rfl j _ u a2m rfl (by rw[M.1];exact Tryz.infoLitB) ?_);apply c.mono;rintro e x4⟨K,rfl,r4⟩;have I:=g.2.1.keep1 K r4;have ac:=af (I.place hb.1);have HI:Hid (TkI b w.heap.size base s L D C d w (.int .i64 k') x4):=
   ⟨k',q',R',rfl,hb.2.2.1,by have:=ae P;omega,g.1.trans K.ku,I,al,hb.1,K.ku.books g.2.2.1 A,g.2.2.2.keep1 K m.2.1,a⟩
  have Hm:Hid (q<q'/\q'<=8*s.size):=⟨by have:=ae Q;omega,hb.1⟩;clear K r4 I hb c u g;go_wp2_with fail;go_roundw
  case rel=>exact HI
  case measure=>rw[ae ac,ae ad];have:=ae Hm;omega
def dp.below(h:dp w)(hb:Below B w w')(a:1<B):dp w':=
 ⟨fun j v b=>(hb.cell (p:=⟨1,0+j,none⟩) a).trans (h.1 j v b),a0h h.2 hb.size⟩
def dp.cell(h:dp w)(a:k<19):w.cell? ⟨1,k,none⟩=some (.int .i64 (bK.getD k 0:Nat)):=by
 have:=h.1 k (.int .i64 (bK.getD k 0:Nat)) (by rw[Array.getElem?_toList];exact EE k a);rwa[a0G]at this
def EI{m:Nat}(h:k<m)(b:m<=19):(bK.take m).drop k=bK.getD k 0 :: (bK.take m).drop (k+1):=by
 have a:k<(bK.take m).length:=by rw[a0u];have:bK.length=19:=rfl;omega
 rw[a28 a]
 congr 1
 have h2:k<bK.length:=by have:bK.length=19:=rfl;omega
 simp[List.getD,h2]
def LbP(w:World)(b:Nat)(s:ByteArray)(d:Option (List Int×Nat))(e:Ending)(w':World):Prop:=
 aw b w w'/\match d with
  | none=>e=lJ
  | some (l,q)=>(∃C,e = .returned (.agg C)/\cf w' w.heap.size l C)/\Rdr w' b s q
def aw.set(h:aw b w x)(d:w.heap.size<=g)(hb:b<w.heap.size)(u:Value):aw b w (x.setCell ⟨g,o,none⟩ u):=
 ⟨ai h.1 (by omega) u,fun j a c=>(a0M _ _ _ j (by show j≠g;omega)).trans (h.2 j a c),fun j a=>⟨by rw[World.cell?_setCell_other _ _ _ _ (by simp only[ne_eq,a0A];omega)];exact(h.3 j a).1,by simpa using(h.3 j a).2⟩⟩
def aw.setCells(h:aw b w x)(i:w.heap.size<=g)(hb:b<w.heap.size)(o:Nat)(us:List Value):aw b w (x.setCells g o us):=by
 have e:∀j,j≠g->(x.setCells g o us).heap[j]?=x.heap[j]?:=fun j c=>gU _ _ _ _ j c;refine⟨below_setCells (by omega) _ _ _ h.1,fun j c d=>(e j (by omega)).trans (h.2 j c d),fun j c=>?_⟩;have f:=e b (by omega);exact⟨(World.cell?_of_block (w:=x) f (a:=⟨b,j,none⟩)).trans (h.3 j c).1,by rw[World.frozen?_setCells];exact(h.3 j c).2⟩
def Rdr.set(h:Rdr x b s p)(a:g≠b)(u:Value):Rdr (x.setCell ⟨g,o,none⟩ u) b s p:=by
 obtain⟨c0,c1,c2,g0,g1,g2,hb⟩:=h;exact⟨by rw[World.cell?_setCell_other _ _ _ _ (by simp only[ne_eq,a0A];omega)];exact c0,by rw[World.cell?_setCell_other _ _ _ _ (by simp only[ne_eq,a0A];omega)];exact c1,by rw[World.cell?_setCell_other _ _ _ _ (by simp only[ne_eq,a0A];omega)];exact c2,by simpa using g0,by simpa using g1,by simpa using g2,by simpa using hb⟩
def Fz(h:w.there g 0 n)(i:aw b w w')(e:g<w.heap.size)(c:g≠b):w'.there g 0 n:=fun j f=>by
 obtain⟨t1,t2⟩:=h j f;have d:=i.2 g e c;exact⟨by rw[World.cell?_of_block (w:=w) d (a:=⟨g,0+j,none⟩)];exact t1,by rw[World.frozen?_of_block (w:=w) d (a:=⟨g,0+j,none⟩)];exact t2⟩
def an.keep1'{base:Nat}(h:an w base v l)(a:aw b w w')(hb:b<base):an w' base v l:=a.own h hb
def LbI(b gL many:Nat)(s:ByteArray)(d:Option (List Int×Nat))(w:World)(i:Value)(wr:World):Prop:=
 ∃(k q:Nat) (l:List Int),i = .int .i64 k/\k<=many/\aw b w wr/\Rdr wr b s q/\q<=8*s.size/\an wr (w.heap.size+1) (.slice gL 19 19) l/\l.length=19/\wr.there w.heap.size 0 19/\dp wr/\w.heap.size<wr.heap.size/\lbG (ak s) (8*s.size) ((bK.take many).drop k) q l=d
def BN(b p many:Nat)(s:ByteArray)(w:World)(h:Rdr w b s p)(hp:p<=8*s.size)(hs:s.size<=2000000)(hm:many<=19)(D:dp w)(hb:1<b) :
  Calls prog 268 #[.pointer b,many] w (LbP w b s (kN (ak s) (8*s.size) many p)):=by
 have al:=cE
 obtain⟨i0,hi,ao,a0,a1⟩:=a0p Tryz.infoInt;obtain⟨d,hd⟩:∃d,lbG (ak s) (8*s.size) (bK.take many) p (List.replicate 19 0)=d:=⟨_,rfl⟩;unfold kN;rw[hd];have f:=h.lt;have a6:(many:Int)<=19:=by omega
 obtain⟨W0,hW0⟩:∃W,w.alloc (.cells sy 258)=W:=⟨_,rfl⟩;have S0:W0.heap.size=w.heap.size+1:=by rw[←hW0];exact ep _ _
 have B0:Below w.heap.size w W0:=by rw[←hW0];exact cC
 have T0:W0.there w.heap.size 0 19:=by rw[←hW0];exact jo w sy _ _ rfl
 have c:=af (a0b h (a0b hp (a0b D (a0b B0 (a0b T0 S0)))));have y:=af (a0b hs (a0b hm (a0b hb f)));have HD:=af hd;have E0:=af hW0;unfold sy at E0;clear h hp hs hm D hb f hd hW0 B0 T0 S0;go_enter func268,ntmps268;go_wp2_with (at_make;refine a1J _ rfl _ _ 129 rfl (w.heap.size+1) 3 i0 (.int .i64 0) 1 a0F hi ao a0 .i64 .i64 _ _ 19 rfl rfl rfl rfl (by rw[a1];omega) (by unfold maxLen;omega) (by simp) ?_;intro w1 n m);rw[ae E0]at n m;rw[c.2.2.2.2.2]at n;have Z:an w1 (w.heap.size+1) (.slice (some ⟨w.heap.size+1,0,none⟩) 19 19) (List.replicate 19 0):=dJ n;have A:Below (w.heap.size+1) W0 w1:=(a0c _ _).grown m (by rw[c.2.2.2.2.2];exact a0a _) (fun k h=>by cases h);clear n m hi ao a0 a1 E0;have HI:Hid (LbI b (w.heap.size+1) many s d w (.int .i64 (0:Nat)) w1):=by
  obtain⟨h,hp,D,B0,T0,S0⟩:=ae c;have f:=y.2.2.2;have bb:Below w.heap.size w w1:=B0.trans (A.mono (a06 _));refine⟨0,p,List.replicate 19 0,rfl,a0g _,(aw.refl b w).later bb f,h.kept (bb.mono f),hp,Z,by simp,?_,D.later bb,by have:=A.size;omega,HD⟩;intro j N;obtain⟨t1,t2⟩:=T0 j N;exact⟨by rw[A.cell (p:=⟨w.heap.size,0+j,none⟩) (a0j _)];exact t1,by rw[A.frozen (p:=⟨w.heap.size,0+j,none⟩) (a0j _)];exact t2⟩
 clear c HD Z A
 go_loopw [6,9] (fun _ i wr=>LbI b (w.heap.size+1) many s d w i wr) (fun _ i _=>many-(intOf i).toNat)
 case atStart=>exact HI
 case round=>
  obtain⟨k,q,l,rfl,hk,E,O,hq,ho,U,G,D,F,hd⟩:=hrel;clear HI;have a4:w.heap.size+1≠b:=by have:=y.2.2.2;omega
  by_cases ad:k<many
  .
   have a3:(k:Int)<(many:Int):=(by omega);have H:k<19:=by have:=y.2.1;omega
   have a5:=BH k H;rw[EI ad y.2.1]at hd;simp only[lbG]at hd;have Q:=af (cJ b q 3 s wr.drew (show Rdr wr.drew b s q from O) y.1 (by omega));have c:=af (a0b E (a0b O (a0b hq (a0b ho (a0b U (a0b G (a0b D F)))))));have J:Hid (∀W,aw b wr.drew W->W.cell? ⟨1,k,none⟩=some (.int .i64 (bK.getD k 0:Nat))):=fun W h=>(dp.below (w:=wr.drew) (show dp wr.drew from D) h.1 y.2.2.1).cell H;have u:=af hd;clear E O hq ho U G D F hk hd;generalize bK.getD k 0=o at *;have a7:(o:Int)<19:=(by omega);go_wp2_with fail;refine wp_region_held_drew (S:=fun W=>W.cell? ⟨1,k,none⟩=some (.int .i64 (o:Nat))) al (J _ (aw.refl _ _)) (fun T=>?_);refine ag 0 (.slice (some ⟨w.heap.size+1,0,none⟩) 19 19) rfl (fun W z=>by go_simp) T ?_;refine ag 1 (.int .i64 (k:Nat)) rfl (fun W z=>by go_simp) T ?_;refine ag 2 (.pointer (some ⟨1,k,none⟩)) rfl (fun W z=>by go_simp<;>(intro h;omega)) T ?_;refine ag 3 (.int .i64 (o:Nat)) rfl (fun W z=>by go_simp) T ?_;refine ag 4 (.pointer b) rfl (fun W z=>by go_simp) T ?_;refine ah 5 fun K Y=>?_;go_simp;go_at_call 246;unfold kG at Q;rcases h1:rdN (ak s) (8*s.size) q 3 with _|⟨x,q1⟩
   .
    rw[h1]at Q u;have Hn:Hid (d=none):=by show d=none;rw[←ae u];rfl
    apply Q.mono;rintro e x1⟨P,rfl⟩;refine⟨rfl,?_⟩;unfold LbP;rw[ae Hn];exact⟨c.1.trans ((aw.refl b wr).drew.trans P),rfl⟩
   .
    rw[h1]at Q u;simp only[a0f]at u;have a2:=af (bV h1);clear h1;apply Q.mono;rintro e x1⟨P,rfl,r1⟩;refine Shut.out Y _ _ (J _ P) (fun M=>?_);clear Y K;have t:aw b wr x1:=(aw.refl b wr).drew.trans P;have f:=y.2.2.2;have o1:=c.2.2.2.1.keep1' t (by omega);obtain⟨c1,f1,_,_⟩:=o1.at c.2.2.2.2.1 a5;refine ag 6 (.pointer (some ⟨w.heap.size+1,o,none⟩)) rfl (fun W z=>by go_simp<;>(intro h;omega)) M ?_;refine ah 7 fun K Y=>?_;go_simp;have ab:w.heap.size<wr.heap.size:=c.2.2.2.2.2.2.2;have th1:=Fz c.2.2.2.2.2.1 t ab (by omega);have HI:Hid (LbI b (w.heap.size+1) many s d w (.int .i64 (k+1:Nat)) (x1.setCell ⟨w.heap.size+1,o,none⟩ (.int .i64 (x:Nat)))):=by
     refine⟨k+1,q1,l.set o (x:Nat),rfl,ad,(c.1.trans t).set (by omega) f _,r1.set a4 _,a2.1,o1.put c.2.2.2.2.1 _,by rw[a00];exact c.2.2.2.2.1,?_,?_,by simp;exact a0h ab t.1.size,u⟩
     . intro j N;obtain⟨t1,t2⟩:=th1 j N;exact⟨by rw[World.cell?_setCell_other _ _ _ _ (by simp)];exact t1,by simpa using t2⟩
     . exact(c.2.2.2.2.2.2.1.below t.1 y.2.2.1).below (ai (a0c b x1) (by omega) _) (ae y).2.2.1
    have aa:(x1.setCell ⟨w.heap.size+1,o,none⟩ (.int .i64 (x:Nat))).cell? ⟨1,k,none⟩=some (.int .i64 (o:Nat)):=by
     rw[World.cell?_setCell_other _ _ _ _ (by simp only[ne_eq,a0A];have:=y.2.2.1;omega)];exact M
    refine Shut.out Y _ _ aa (fun _=>?_);clear Y K;refine wpAnyH_done (by kernel_rfl) ?_ _;clear T M aa P t r1 o1 th1 J Q c c1 f1;generalize x1.setCell ⟨w.heap.size+1,o,none⟩ (.int .i64 (x:Nat))=x2 at *;go_wp2_with fail;go_roundw
    case rel=>exact HI
    case measure=>simp[intOf];omega
  .
   have a3:¬ (k:Int)<(many:Int):=(by omega);have e0:(bK.take many).drop k=[]:=a2Y (by rw[a0u];omega);rw[e0]at hd;simp only[lbG]at hd;have HE:=af hd;have f:=y.2.2.2;have HJ:=af (bX U (ho.own U));have g:=af (Lg _ 19 19 (w.heap.size+1) l wr U HJ (by omega) (by omega));have c:=af (a0b E (a0b O (a0b G F)));clear E O hq ho U G D F hk e0;cases r:ap l
   . rw[r]at g;simp only[a07,a08]at g;have I:=af r;clear r hd;go_wp2_with fail;apply g.mono;rintro e x1⟨L,rfl⟩;refine⟨rfl,?_⟩;unfold LbP;rw[←ae HE];simp only[a0f];rw[ae I];exact⟨c.1.later L c.2.1.lt,rfl⟩
   .
    rw[r]at g;simp only[a0Y]at g;have I:=af r;clear r hd;go_wp2_with fail;apply g.mono;rintro e x1⟨L,C,rfl,R⟩;have X:Hid (x1.there w.heap.size 0 19):=fun j N=>by
     obtain⟨t1,t2⟩:=c.2.2.1 j N;have f:=c.2.2.2;exact⟨by rw[L.cell (p:=⟨w.heap.size,0+j,none⟩) f];exact t1,by rw[L.frozen (p:=⟨w.heap.size,0+j,none⟩) f];exact t2⟩
    have B:=af R.size;have V:=af R.one;have HY:=af (a0b (c.1.later L c.2.1.lt) (a0b (c.2.1.kept (L.mono c.2.1.lt)) R));clear L R g HJ c;go_wp2_with (refine wpList_store_mid rfl 258 (.tmp 4) (.tmp 21) rfl w.heap.size 0 C rfl rfl (by rw[ae B];exact X) (by rw[ae B];exact Tryz.infoLenB) V ?_);obtain⟨P,r1,R⟩:=ae HY;have O:=World.rangeAt_setCells_same x1 w.heap.size 0 C.toList (by rw[a15,ae B];exact X);have hk:∀j,j≠w.heap.size->(x1.setCells w.heap.size 0 C.toList).heap[j]?=x1.heap[j]?:=fun j N=>gU _ _ _ _ j N;have hz:(x1.setCells w.heap.size 0 C.toList).heap.size=x1.heap.size:=size_setCells _ _ _ _;refine a0x (gp rfl _ _ w.heap.size _ _ rfl O a3j rfl (by rw[a15,ae B];exact Tryz.infoLenB)) rfl ?_;unfold LbP;rw[←ae HE];simp only[a0f];rw[ae I];refine⟨P.setCells (a0a _) f _ _,⟨C,by simp,(R.touch hz hk (a0j _)).mono (a06 _)⟩,?_⟩;obtain⟨c0,c1,c2,g0,g1,g2,hb⟩:=r1;have ac:=hk b (by omega);have hc:∀j,(x1.setCells w.heap.size 0 C.toList).cell? ⟨b,j,none⟩=x1.cell? ⟨b,j,none⟩:=fun j=>World.cell?_of_block (w:=x1) ac (a:=⟨b,j,none⟩);have hf:∀j,(x1.setCells w.heap.size 0 C.toList).frozen? ⟨b,j,none⟩=x1.frozen? ⟨b,j,none⟩:=fun j=>World.frozen?_of_block (w:=x1) ac (a:=⟨b,j,none⟩);exact⟨(hc 0).trans c0,(hc 1).trans c1,(hc 2).trans c2,(hf 0).trans g0,(hf 1).trans g1,(hf 2).trans g2,by rw[hz];exact hb⟩
def Rdr.place(h:Rdr w b s p)(c:p<=8*s.size):mZ b w=p:=by
 have a:=(h.at c).2.1;unfold mZ;rw[a];simp[intOf]
def aw.book(h:aw b w w')(c:w.heap[g]?=some (Obj.cells C t))(e:g≠b):w'.heap[g]?=some (Obj.cells C t):=by
 have d:g<w.heap.size:=by
  rcases a1o g w.heap.size with a|a
  . exact a
  . rw[Array.getElem?_eq_none a]at c;cases c
 rw[h.2 g d e];exact c
def wo{base:Nat}{y:Int}(a:l.length=n)(h:x.ownsRow base 3 1 v (n+k) (l.map (Value.int .i64)++List.replicate k (.int .i64 y))):an x base v (l++List.replicate k y):=by
 show World.ownsRow _ _ _ _ _ (l++List.replicate k y).length _;rw[a0i,a0y,a,a0K,List.map_replicate];exact h
def Rdr.block(h:Rdr x b s p)(e:x'.heap[b]?=x.heap[b]?)(f:x.heap.size<=x'.heap.size):Rdr x' b s p:=by
 obtain⟨c0,c1,c2,g0,g1,g2,hb⟩:=h;have c:∀j,x'.cell? ⟨b,j,none⟩=x.cell? ⟨b,j,none⟩:=fun j=>World.cell?_of_block (w:=x) e (a:=⟨b,j,none⟩);have d:∀j,x'.frozen? ⟨b,j,none⟩=x.frozen? ⟨b,j,none⟩:=fun j=>World.frozen?_of_block (w:=x) e (a:=⟨b,j,none⟩);exact⟨(c 0).trans c0,(c 1).trans c1,(c 2).trans c2,(d 0).trans g0,(d 1).trans g1,(d 2).trans g2,by omega⟩
def DN{xs:List Value}(g:aw b w x)(l:x.ownsRow (w.heap.size+1) t 1 v n xs)(i:x.grownBy x' v.ownBlock)(hb:b<w.heap.size) :
  aw b w x'/\∀j,j<=w.heap.size->j<x.heap.size->x'.heap[j]?=x.heap[j]?:=by
 have d:∀j,j<=w.heap.size->some j≠v.ownBlock:=fun j c e=>by
  have:=(a0z l j e.symm).1;omega
 have m:=g.1.size;have f:=i.block b (by omega) (d b (by omega));refine⟨⟨g.1.grown i (by omega) (fun k h=>by have:=(a0z l k h).1;omega),fun j c h=>(i.block j (by omega) (d j (by omega))).trans (g.2 j c h),fun j c=>⟨(World.cell?_of_block (w:=x) f (a:=⟨b,j,none⟩)).trans (g.3 j c).1,(World.frozen?_of_block (w:=x) f (a:=⟨b,j,none⟩)).trans (g.3 j c).2⟩⟩,fun j c h=>i.block j h (d j c)⟩
def LnP(w:World)(b:Nat)(s:ByteArray)(d:Option (List Int×Nat))(e:Ending)(w':World):Prop:=
 aw b w w'/\match d with
  | none=>e=lJ
  | some (l,q)=>(∃v,e = .returned v/\an w' w.heap.size v l)/\Rdr w' b s q
def LnI(b many:Nat)(s:ByteArray)(B:List Int)(C:Array Value)(d:Option (List Int×Nat))(w:World)(v:Value)(wr:World):Prop:=
 ∃(q:Nat) (A:List Int),an wr (w.heap.size+1) v A/\A.length<=600/\aw b w wr/\Rdr wr b s q/\q<=8*s.size/\wr.heap[w.heap.size]?=some (Obj.cells C 258)/\w.heap.size<wr.heap.size/\lnG (ak s) (8*s.size) B many q A=d
def LnS(b:Nat)(s:ByteArray)(C:Array Value)(w x:World)(v:Value)(A:List Int)(q:Nat):Prop:=
 an x (w.heap.size+1) v A/\aw b w x/\Rdr x b s q/\q<=8*s.size/\x.heap[w.heap.size]?=some (Obj.cells C 258)/\w.heap.size<x.heap.size
def LnS.keep(h:LnS b s C w x v A q)(hb:b<w.heap.size)(a:aw b x x')(f:Rdr x' b s q')(hq:q'<=8*s.size):LnS b s C w x' v A q':=by
 obtain⟨c,h2,g,i,d,e⟩:=h;exact⟨c.keep1' a (by omega),h2.trans a,f,hq,a.book d (by omega),a0h e a.1.size⟩
def LnS.below(h:LnS b s C w x v A q)(hb:b<w.heap.size)(a:Below x.heap.size x x'):LnS b s C w x' v A q:=by
 have h2:=h.2.2.1.lt;exact h.keep hb ((aw.refl b x).later a h2) (h.2.2.1.kept (a.mono h2)) h.2.2.2.1
def LnS.grown{A':List Int}(h:LnS b s C w x v A q)(hb:b<w.heap.size)(a:x.grownBy x' v.ownBlock)(i:an x' (w.heap.size+1) v' A'):LnS b s C w x' v' A' q:=by
 obtain⟨e,h2,c,f,g,d⟩:=h;obtain⟨g1,g2⟩:=DN h2 e a hb;exact⟨i,g1,c.block (g2 b (by omega) c.lt) a.size,f,(g2 _ (a0a _) d).trans g,a0h d a.size⟩
def LnS.done{many:Nat}{B:List Int}{d:Option (List Int×Nat)}(h:LnS b s C w x v A q)(a:A.length<=600)(hd:lnG (ak s) (8*s.size) B many q A=d):LnI b many s B C d w v x:=
 ⟨q,A,h.1,a,h.2.1,h.2.2.1,h.2.2.2.1,h.2.2.2.2.1,h.2.2.2.2.2,hd⟩
def BO(b p many base:Nat)(s:ByteArray)(B:List Int)(C:Array Value)(w:World)(h:Rdr w b s p)(hp:p<=8*s.size)(hs:s.size<=2000000)(hm:many<=400)(hB:cf w base B C)(a9:b<base)(b0:ap B=true) :
  Calls prog 267 #[.pointer b,many,.agg C] w (LnP w b s (lnG (ak s) (8*s.size) B many p [])):=by
 have bl:=cE
 obtain⟨i0,hi,a3,a4,a5⟩:=a0p Tryz.infoInt;obtain⟨d,hd⟩:∃d,lnG (ak s) (8*s.size) B many p []=d:=⟨_,rfl⟩;rw[hd];have a2:=h.lt;have cs:(many:Int)<=400:=by omega
 have HI:Hid (LnI b many s B C d w (.slice none 0 0) (w.alloc (.cells C 258))):=
  ⟨p,[],an.nil _ _,by simp,(aw.refl b w).alloc a2 _,h.alloc _,hp,alloc_at _ _,by simp,hd⟩
 have N:=af (a0b hs (a0b a9 (a0b b0 a2)));have HZ:=af hB.size;have b1:Hid (∀W,aw b w W->cf W base B C):=fun W hW=>hB.keep1 hW a9;clear h hp hs hm hB a9 b0 hd a2;go_enter func267,ntmps267;go_wp2_with fail
 go_loopw [7,8] (fun v _ wr=>LnI b many s B C d w v wr) (fun _ _ wr=>8*s.size-mZ b wr)
 case atStart=>exact HI
 case round=>
  obtain⟨q,A,ho,hA,a1,hr,hq,a0,bc,hd⟩:=hrel;clear HI;obtain⟨n,hn⟩:∃n,A.length=n:=⟨_,rfl⟩;obtain⟨a,cap,rfl⟩:=ho.formN hn;have a2:=N.2.2.2;have cc:w.heap.size≠b:=by omega
  have ac:=af (hr.place hq);have HX:=af (a0b ho (a0b a1 (a0b hr (a0b hq (a0b a0 bc)))));have cy:(n:Int)<=600:=by omega
  have F:=af hn;by_cases c5:n<many
  .
   have bs:(n:Int)<(many:Int):=(by omega);rw[wW hq (by omega)]at hd;have T:=af (He b q base C B s wr (b1 _ a1) N.2.1 N.2.2.1 N.1 hr hq);have a6:=af (uF a0);clear ho a1 hr hq a0 bc hn hA;unfold SyP at T;rcases h1:dec B (ak s) (8*s.size) q with _|⟨k,Q⟩
   .
    rw[h1]at T hd;have Hn:Hid (d=none):=by show d=none;rw[←hd];rfl
    clear h1 hd;go_wp2_with (refine br rfl 258 (.tmp 5) rfl w.heap.size 0 rfl C _ a6 a3j rfl (by rw[ae HZ];exact Tryz.infoLenB) ?_);apply T.mono;rintro e x1⟨k1,rfl⟩;refine⟨rfl,?_⟩;unfold LnP;rw[ae Hn];exact⟨HX.2.1.trans k1,rfl⟩
   rw[h1]at T hd;have a8:=gB h1;simp only[a0f]at hd;clear h1;have l:=af hd;clear hd;go_wp2_with (refine br rfl 258 (.tmp 5) rfl w.heap.size 0 rfl C _ a6 a3j rfl (by rw[ae HZ];exact Tryz.infoLenB) ?_);apply T.mono;rintro e x1⟨k1,rfl,r1⟩;have o1:=HX.1.keep1' k1 (by omega);have HY:=af (a0b o1 (a0b (HX.2.1.trans k1) (a0b r1 (a0b a8.1 (a0b (k1.book HX.2.2.2.2.1 cc) (a0h HX.2.2.2.2.2 k1.1.size))))));have Hq:=af a8.2.1;have I:Hid (LnS b s C w x1 (.slice a n cap) A Q):=ae HY;clear k1 r1 o1 HX a6 T a8 HY;have aa:=af (I.1.own F);have ba:w.heap.size+1<=x1.heap.size:=I.2.2.2.2.2;have cv:n<400:=(by omega);by_cases o:k=16
   .
    have a7:(k == 16)=true:=by rw[o];rfl
    by_cases bb:n=0
    .
     have ca:decide (0<n)=false:=a0m (by omega);have Hn:Hid (d=none):=by show d=none;rw[←ae l,o];unfold er;rw[a0d rfl,a0d (by rw[ae F];exact bb)];rfl
     clear bb o;go_wp2_with fail;apply(gm _).mono;rintro e x2⟨rfl,D⟩;rw[D];clear D x2;refine⟨rfl,?_⟩;unfold LnP;rw[ae Hn];exact⟨I.2.1,rfl⟩
    .
     have ca:decide (0<n)=true:=a0B (by omega);obtain⟨g,rfl⟩:=I.1.somes (by rw[ae F];omega);have H:Hid (er (ak s) (8*s.size) A k Q=(rdN (ak s) (8*s.size) Q 2).bind fun x=>some (A++List.replicate (3+x.1) (A.getD (n-1) 0),x.2)):=by
      show _=_;rw[o];unfold er;rw[a0d rfl,a0e (by rw[ae F];exact bb),ae F]
     rw[ae H]at l;obtain⟨m,hm⟩:∃m,n-1=m:=⟨_,rfl⟩;have cu:(n:Int)-1=(m:Int):=(by omega);have bn:m+1=n:=(by omega);rw[hm]at l;have al:=af bn;have b2:Hid (IntKind.i64.wrap (m:Int)=(m:Int)):=by show _=_;rw[a0V];omega
     clear H o hm bn;go_wp2_with fail;apply(dO _).mono;rintro e x2⟨rfl,D⟩;rw[D];clear D x2;go_wp2_with fail;have E:=af (cJ b Q 2 s x1.drew (show Rdr x1.drew b s Q from I.2.2.1) N.1 (by omega));have ch:n<=cap:=by
      have:=aa;rcases this.2 with⟨e,_⟩|⟨g',cg,cp,e,_,_,h1,_⟩
      . cases e
      . simp only[a0L]at e;omega
     refine wp_region_held_drew (S:=fun _=>True) bl trivial (fun hS=>?_);refine ag 0 (.slice g n cap) rfl (fun W P=>by go_simp) hS ?_;refine ag 1 (.slice g n cap) rfl (fun W P=>by go_simp) hS ?_;refine ag 2 (.slice g n cap) rfl (fun W P=>by go_simp) hS ?_;refine ag 3 (.int .i64 (n:Nat)) rfl (fun W P=>by go_simp) hS ?_;refine ag 4 (.int .i64 (m:Nat)) rfl (fun W P=>by go_simp;exact b2) hS ?_;refine ag 6 (.pointer b) rfl (fun W P=>by go_simp) hS ?_;refine ag 5 (.slice (some ⟨g,m,none⟩) 1 (cap-m)) rfl (fun W P=>by go_simp;rw[a0d (by have:=ae al;omega),a0e (by have:=ae al;omega),show n-m=1 by have:=ae al;omega]) hS ?_;refine ah 7 fun K V=>?_;go_simp;go_at_call 246;unfold kG at E;rcases h2:rdN (ak s) (8*s.size) Q 2 with _|⟨y,q2⟩
     .
      rw[h2]at E l;have Hn:Hid (d=none):=by show d=none;rw[←ae l];rfl
      apply E.mono;rintro e x2⟨R,rfl⟩;refine⟨rfl,?_⟩;unfold LnP;rw[ae Hn];exact⟨I.2.1.trans ((aw.refl b x1).drew.trans R),rfl⟩
     rw[h2]at E l;simp only[a0f]at l;have J:=af (bV h2);have hy:y<4:=by have:=(bV h2).2.2.2;omega
     clear h2;apply E.mono;rintro e x2⟨R,rfl,r2⟩;refine Shut.out V _ _ trivial (fun M=>?_);clear V K;have r:=af (I.keep N.2.2.2 ((aw.refl b x1).drew.trans R) r2 J.1);clear R r2 E;obtain⟨c,hc⟩:∃c,3+y=c:=⟨_,rfl⟩;have b4:Hid (IntKind.i64.wrap (3+(y:Int))=(c:Int)):=by show _=_;rw[a0V];omega
     have cr:(c:Int)<=7:=(by omega);have b9:1<=c:=(by omega);rw[hc]at l;clear hc;refine ag 8 (.int .i64 (c:Nat)) rfl (fun W P=>by go_simp;exact b4) M ?_;refine ah 9 fun K V=>?_;go_simp;go_at_call 101;have Y:x2.cell? ⟨g,m,none⟩=some (.int .i64 (A.getD m 0)):=(r.1.at F (by have:=ae al;omega)).1;apply(qp (A.getD m 0) c (cap-m) g m x2 Y b9 (by omega)).mono;rintro e x3⟨rfl,o3,b3⟩;have ad:=af (r.below N.2.2.2 b3);have be:=af o3;generalize A.getD m 0=z at *;refine Shut.out V _ _ trivial (fun t=>?_);clear V K o3 b3 Y;refine ah 10 fun K V=>?_;refine aL rfl _ _ 129 rfl (w.heap.size+1) 3 i0 (.int .i64 0) 1 8 a0F hi a3 a4 a5 rfl (by decide) (.slice g n cap) n _ rfl (ad.1.own F) ⟨x2.heap.size,0,none⟩ c c ((List.replicate c z).map (Value.int .i64)) rfl (by simp) (a1F (be.own (n:=c) (by simp)) rfl) (by intro u hu;simp only[a2S]at hu;obtain⟨_,_,rfl⟩:=hu;rfl) (by unfold maxLen;omega) (by omega) (by have:=ad.2.2.2.2.2;omega) (fun v' x4 j f Z=>?_);clear Z;rw[List.map_replicate]at j;have ao:=ad.grown N.2.2.2 f (wo F j);have HI:=af (ao.done (B:=B) (many:=many) (d:=d) (by rw[a0i,ae F,a0y];omega) l);have O:=af (ao.2.2.1.place ao.2.2.2.1);clear j f ao;refine Shut.out V _ _ trivial (fun b7=>?_);clear V K;refine ah 11 fun K V=>?_;go_simp;refine Shut.out V _ _ trivial (fun b8=>?_);clear V K;refine wpAnyH_done (by kernel_rfl) ?_ _;clear I r ad be aa hS M t b7 b8;go_wp2_with fail;go_roundw
     case rel=>exact HI
     case measure=>rw[ae O,ae ac];have:=ae Hq;have:=ae J;omega
   .
    by_cases L:k=17
    .
     have bk:(k == 17)=true:=by rw[L];rfl
     have a7:(k == 16)=false:=by rw[a0X];exact o
     have E:=af (cJ b Q 3 s x1 I.2.2.1 N.1 (by omega));have H:Hid (er (ak s) (8*s.size) A k Q=(rdN (ak s) (8*s.size) Q 3).bind fun x=>some (A++List.replicate (3+x.1) 0,x.2)):=by
      show _=_;rw[L];unfold er;rw[a0e (by decide),a0d rfl]
     rw[ae H]at l;clear o L H;unfold kG at E;rcases h2:rdN (ak s) (8*s.size) Q 3 with _|⟨y,q2⟩
     .
      rw[h2]at E l;have Hn:Hid (d=none):=by show d=none;rw[←ae l];rfl
      clear h2 l;go_wp2_with fail;apply E.mono;rintro e x2⟨R,rfl⟩;refine⟨rfl,?_⟩;unfold LnP;rw[ae Hn];exact⟨I.2.1.trans R,rfl⟩
     .
      rw[h2]at E l;simp only[a0f]at l;have G:=bV h2;have hy:y<8:=by have:=G.2.2.2;omega
      have J:=af (a0b G.1 G.2.1);clear h2 G;go_wp2_with fail;apply E.mono;rintro e x2⟨R,rfl,r2⟩;have r:=af (I.keep N.2.2.2 R r2 J.1);have ab:=af (r.1.own F);have X:w.heap.size+1<=x2.heap.size:=r.2.2.2.2.2;have bd:Hid (n+(3+y)<=maxLen/\(n+(3+y))*8<=140737488355328):=by show _/\_;unfold maxLen;omega
      clear R r2 E I aa ba;go_wp2_with (at_builtin;refine j8 _ rfl _ _ 129 3 rfl (w.heap.size+1) 3 i0 (.int .i64 0) 8 .i64 .i64 a0F a10 hi a3 a4 a5 rfl rfl (.slice a n cap) n _ rfl ab (3+y) (by simp[Act.eval]) (by omega) bd.1 bd.2 X ?_;intro v' x3 j f);have t:=r.grown N.2.2.2 f (wo F j);have HI:=af (t.done (B:=B) (many:=many) (d:=d) (by rw[a0i,ae F,a0y];omega) l);have O:=af (t.2.2.1.place t.2.2.2.1);clear j f t;go_wp2_with fail;go_roundw
      case rel=>exact HI
      case measure=>rw[ae O,ae ac];have:=ae Hq;have:=ae J;omega
    .
     by_cases U:k=18
     .
      have bk:(k == 18)=true:=by rw[U];rfl
      have a7:(k == 16)=false:=by rw[a0X];exact o
      have b5:(k == 17)=false:=by rw[a0X];exact L
      have E:=af (cJ b Q 7 s x1 I.2.2.1 N.1 (by omega));have H:Hid (er (ak s) (8*s.size) A k Q=(rdN (ak s) (8*s.size) Q 7).bind fun x=>some (A++List.replicate (11+x.1) 0,x.2)):=by
       show _=_;rw[U];unfold er;rw[a0e (by decide),a0e (by decide),a0d rfl]
      rw[ae H]at l;clear o L U H;unfold kG at E;rcases h2:rdN (ak s) (8*s.size) Q 7 with _|⟨y,q2⟩
      .
       rw[h2]at E l;have Hn:Hid (d=none):=by show d=none;rw[←ae l];rfl
       clear h2 l;go_wp2_with fail;apply E.mono;rintro e x2⟨R,rfl⟩;refine⟨rfl,?_⟩;unfold LnP;rw[ae Hn];exact⟨I.2.1.trans R,rfl⟩
      .
       rw[h2]at E l;simp only[a0f]at l;have G:=bV h2;have hy:y<128:=by have:=G.2.2.2;omega
       have J:=af (a0b G.1 G.2.1);clear h2 G;go_wp2_with fail;apply E.mono;rintro e x2⟨R,rfl,r2⟩;have r:=af (I.keep N.2.2.2 R r2 J.1);have ab:=af (r.1.own F);have X:w.heap.size+1<=x2.heap.size:=r.2.2.2.2.2;have bd:Hid (n+(11+y)<=maxLen/\(n+(11+y))*8<=140737488355328):=by show _/\_;unfold maxLen;omega
       clear R r2 E I aa ba;go_wp2_with (at_builtin;refine j8 _ rfl _ _ 129 3 rfl (w.heap.size+1) 3 i0 (.int .i64 0) 8 .i64 .i64 a0F a10 hi a3 a4 a5 rfl rfl (.slice a n cap) n _ rfl ab (11+y) (by simp[Act.eval]) (by omega) bd.1 bd.2 X ?_;intro v' x3 j f);have t:=r.grown N.2.2.2 f (wo F j);have HI:=af (t.done (B:=B) (many:=many) (d:=d) (by rw[a0i,ae F,a0y];omega) l);have O:=af (t.2.2.1.place t.2.2.2.1);clear j f t;go_wp2_with fail;go_roundw
       case rel=>exact HI
       case measure=>rw[ae O,ae ac];have:=ae Hq;have:=ae J;omega
     .
      have a7:(k == 16)=false:=by rw[a0X];exact o
      have b5:(k == 17)=false:=by rw[a0X];exact L
      have co:(k == 18)=false:=by rw[a0X];exact U
      have bd:Hid (n+1<=maxLen/\(n+1)*8<=140737488355328):=by show _/\_;unfold maxLen;omega
      have HE:Hid (lnG (ak s) (8*s.size) B many Q (A++[k])=d):=by
       show _=d;rw[←ae l];unfold er;rw[a0e o,a0e L,a0e U];rfl
      clear o L U l;go_wp2_with (at_builtin;refine a0w _ rfl _ _ 129 rfl (w.heap.size+1) 3 i0 (.int .i64 0) 1 8 a0F hi a3 a4 a5 rfl (by decide) (.slice a n cap) _ _ rfl (a0o aa _) ⟨x1.heap.size,0,none⟩ 1 1 [.int .i64 k] rfl rfl (cK _ _ rfl _ _) (fD _) bd.1 bd.2 (ar ba _) ?_;intro v' x2 j f Z;clear Z);have M:=(I.below N.2.2.2 ((a0c _ _).alloc (a0a _) (.cells #[k] 3))).grown N.2.2.2 f (dN F j);have HI:=af (M.done (B:=B) (many:=many) (d:=d) (by rw[a0i,ae F,a1l];omega) HE);have O:=af (M.2.2.1.place M.2.2.2.1);have HQ:=af M.2.2.2.1;clear j f M;go_wp2_with fail;go_roundw
      case rel=>exact HI
      case measure=>rw[ae O,ae ac];have:=ae Hq;have:=ae HQ;omega
  .
   have bs:¬ (n:Int)<(many:Int):=(by omega);rw[wX hq (by omega)]at hd;have l:=af hd;clear ho a1 hr hq a0 bc hn hA hd;by_cases hE:n=many
   .
    have b6:((n:Int) == (many:Int))=true:=by rw[hE];exact beq_self_eq_true _
    rw[a0d (by rw[ae F];exact hE)]at l;clear hE;go_wp2_with fail;apply(dO _).mono;rintro e x2⟨rfl,D⟩;rw[D];clear D x2;go_wp2;go_ret;unfold LnP;rw[←ae l];exact⟨HX.2.1,⟨_,rfl,HX.1.mono (a06 _)⟩,HX.2.2.1⟩
   .
    have b6:((n:Int) == (many:Int))=false:=by rw[a0X];omega
    rw[a0e (by rw[ae F];exact hE)]at l;clear hE;go_wp2_with fail;apply(gm _).mono;rintro e x2⟨rfl,D⟩;rw[D];clear D x2;refine⟨rfl,?_⟩;unfold LnP;rw[←ae l];exact⟨HX.2.1,rfl⟩
def Jc:ap (cm 288)=true:=by kernel_rfl
def Dv:ap (List.replicate 32 (5:Int))=true:=by kernel_rfl
def de.take{base:Nat}(h:de w base a l)(n:Nat):de w base a (l.take n):=by
 have j:(l.take n).length<=l.length:=by rw[a0u];omega
 refine⟨fun b=>?_,fun b=>h.2 (by omega)⟩;obtain⟨g,o,e,d,c⟩:=h.1 (by omega);refine⟨g,o,e,d,fun i f=>?_⟩;rw[c i (by omega)];rw[a0u]at f;simp[List.getD,show i<n by omega]
def de.drop{base:Nat}(h:de w base (some ⟨g,o,none⟩) l)(n:Nat):de w base (some ⟨g,o+n,none⟩) (l.drop n):=by
 have f:(l.drop n).length=l.length-n:=a04 ..;refine⟨fun a=>?_,fun a x e=>?_⟩
 . obtain⟨g',o',e,c,b⟩:=h.1 (by omega);simp only[a0l,a0A,a0Q]at e;obtain⟨rfl,rfl⟩:=e;refine⟨g,o+n,rfl,c,fun i d=>?_⟩;have:=b (n+i) (by omega);rw[←a2a]at this;rw[this];simp[List.getD,List.getElem?_drop]
 . have:=h.2 (by omega) _ rfl;simp only[a0l]at e;subst e;exact this
def yo(b p:Nat)(s:ByteArray)(T:List UInt8)(w:World)(h:Sou w b s p T)(o:T.length<=300)(r:p<=8*s.size)(t:s.size<=2000000) :
  Calls prog 244 #[.pointer b] w (dH w b s (GD (ak s) (8*s.size) p T)):=by
 obtain⟨d,hd⟩:∃d,GD (ak s) (8*s.size) p T=d:=⟨_,rfl⟩;rw[hd];have a:=af (a0b h (a0b o (a0b r t)));have k:=af hd;have j:=h.lt;clear h o r t hd;go_enter func244,ntmps244;go_wp2_with fail;apply(nO w).mono;rintro e x1⟨⟨C,rfl,n⟩,i⟩;have g:=af (yd b p (w.heap.size+1) s (cm 288) (List.replicate 32 5) C T x1 (a.1.later i) a.2.1 a.2.2.1 a.2.2.2 n (by omega) Jc Dv);have l:=af (show iP (ak s) (8*s.size) (cm 288) (List.replicate 32 5) p T=d from ae k);rw[ae l]at g;have f:=af ((KU.refl b w).later i j);clear n i a k l;go_wp2_with fail;refine g.mono ?_;intro e x2 h2;unfold dH at h2;rcases d with _|⟨T',q⟩
 . obtain⟨c,rfl⟩:=h2;refine⟨rfl,?_⟩;unfold dH;exact⟨f.trans c,rfl⟩
 .
  obtain⟨c,rfl,s2⟩:=h2;have m:=af (a0b (f.trans c) s2);clear c s2 g f;go_wp2
  go_end0
  unfold dH;exact⟨m.1,rfl,m.2⟩
def cf.second{base:Nat}{a b:Array Value}(h:ff w base L D (a++b))(d:a.size=19):cf w base D b:=by
 obtain⟨E1,E2,e,f1,f2⟩:=h;have c:=congrArg Array.toList e;simp only[a1H]at c;have h2:=a2b c (by simp[d,f1.size]);rw[Array.ext' h2.2];exact f2
def yh{P:Program}{ops:Array Oper}{S:World->Prop}{op:Oper}{a:Act}(d:Region.wanted op (yielded ops a.tmps)=true)(t:TypeId)(parts:Array (Nat×Operand))(c:op.op = .build t parts)(cells:Array Value)
  (b:P.built t (parts.map fun(i,x)=>(i,a.eval x)).toList=some cells):YieldsIf P ops S op (.agg cells) a:=
 a0J ⟨d,fun w _=>by unfold execOp;simp only[c,a2N,run_build w t _ cells b,Result.andThen_ok,a3Q]⟩
def uY{P:Program}{ops:Array Oper}{S:World->Prop}{op:Oper}{a:Act}(d:Region.wanted op (yielded ops a.tmps)=true)(t:TypeId)(x y:Operand)(c:op.op = .build t #[(0,x),(1,y)])(cells:Array Value)(u v:Value)(f:a.eval x=u)(g:a.eval y=v)
  (b:P.built t [(0,u),(1,v)]=some cells):YieldsIf P ops S op (.agg cells) a:=by
 have e:((#[(0,x),(1,y)]:Array (Nat×Operand)).map fun(i,x)=>(i,a.eval x)).toList=[(0,u),(1,v)]:=by simp[f,g]
 exact yh d t _ c cells (by rw[e];exact b)
def EQ(b p:Nat)(s:ByteArray)(T:List UInt8)(w:World)(h:Sou w b s p T)(hT:T.length<=300)(hs:s.size<=2000000)(hO:dp w)(hb:1<b) :
  Calls prog 245 #[.pointer b] w (dH w b s (xC (ak s) (8*s.size) p T)):=by
 have bb:=cE
 obtain⟨d,hd⟩:∃d,xC (ak s) (8*s.size) p T=d:=⟨_,rfl⟩;rw[hd];have f:=af hd;unfold xC at f;have y:=af (a0b hs (a0b hT (a0b hO hb)));have j:=af (cJ b p 5 s w h.1 hs (by omega));have HS:=af h;clear h hT hs hO hb hd;go_enter func245,ntmps245;unfold kG at j;rcases h1:rdN (ak s) (8*s.size) p 5 with _|⟨a,q1⟩
 .
  rw[h1]at j f;have t:Hid (d=none):=by show d=none;rw[←ae f];rfl
  clear h1 f;go_wp2_with fail;apply j.mono;rintro e x1⟨k1,rfl⟩;refine⟨rfl,?_⟩;unfold dH;rw[ae t];exact⟨k1.ku,rfl⟩
 rw[h1]at j f;simp only[a0f]at f;have ha:a<32:=by have:=(bV h1).2.2.2;omega
 clear h1;go_wp2_with fail;apply j.mono;rintro e x1⟨k1,rfl,r1⟩;have M:=af k1;have a3:=af r1;clear k1 r1 j;have j:=af (cJ b q1 5 s x1 a3 y.1 (by omega));unfold kG at j;rcases h2:rdN (ak s) (8*s.size) q1 5 with _|⟨c,q2⟩
 .
  rw[h2]at j f;have t:Hid (d=none):=by show d=none;rw[←ae f];rfl
  clear h2 f;go_wp2_with fail;apply j.mono;rintro e x2⟨k2,rfl⟩;refine⟨rfl,?_⟩;unfold dH;rw[ae t];exact⟨(M.trans k2).ku,rfl⟩
 rw[h2]at j f;simp only[a0f]at f;have hc:c<32:=by have:=(bV h2).2.2.2;omega
 clear h2;go_wp2_with fail;apply j.mono;rintro e x2⟨k2,rfl,r2⟩;have u:=af (M.trans k2);have a4:=af r2;clear k2 r2 j M a3;have j:=af (cJ b q2 4 s x2 a4 y.1 (by omega));unfold kG at j;by_cases hA:a+257<=286/\c+1<=30
 .
  rw[a0d hA]at f;have z:(a:Int)+256+1<=286:=by omega
  have bn:(c:Int)+1<=30:=by omega
  clear hA;obtain⟨nL,hnL⟩:∃n,a+257=n:=⟨_,rfl⟩;obtain⟨nD,hnD⟩:∃n,c+1=n:=⟨_,rfl⟩;have e1:(a:Int)+256+1=(nL:Int):=by omega
  have e2:(c:Int)+1=(nD:Int):=by omega
  have l1:nL<=286/\257<=nL:=by omega
  have l2:nD<=30/\1<=nD:=by omega
  have l1I:(nL:Int)<=286:=by omega
  have l2I:(nD:Int)<=30:=by omega
  rw[hnL,hnD]at f;clear hnL hnD;go_wp2_with fail;apply(dO _).mono;rintro e x3⟨rfl,k⟩;rw[k];clear k x3 e1 e2 z bn ha hc;rcases h3:rdN (ak s) (8*s.size) q2 4 with _|⟨m,q3⟩
  .
   rw[h3]at j f;have t:Hid (d=none):=by show d=none;rw[←ae f];rfl
   clear h3 f;go_wp2_with fail;apply j.mono;rintro e x3⟨k3,rfl⟩;refine⟨rfl,?_⟩;unfold dH;rw[ae t];exact⟨(u.trans k3).ku,rfl⟩
  rw[h3]at j f;simp only[a0f]at f;have b4:m<16:=by have:=(bV h3).2.2.2;omega
  have a6:=af (bV h3).1;obtain⟨mm,hmm⟩:∃n,m+4=n:=⟨_,rfl⟩;have e3:(m:Int)+4=(mm:Int):=by omega
  have ad:mm<=19:=by omega
  rw[hmm]at f;clear h3 hmm;go_wp2_with fail;apply j.mono;rintro e x3⟨k3,rfl,r3⟩;have x:=af (u.trans k3);have Q:=af r3;clear k3 r3 j u a4;have HB:=af (BN b q3 mm s x3 Q a6 y.1 ad (y.2.2.1.below x.1 y.2.2.2) y.2.2.2);unfold LbP at HB;rcases h4:kN (ak s) (8*s.size) mm q3 with _|⟨B,q4⟩
  .
   rw[h4]at HB f;have t:Hid (d=none):=by show d=none;rw[←ae f];rfl
   clear h4 f;go_wp2_with fail;apply HB.mono;rintro e x4⟨k4,rfl⟩;refine⟨rfl,?_⟩;unfold dH;rw[ae t];exact⟨(x.trans k4).ku,rfl⟩
  rw[h4]at HB f;simp only[a0f]at f;have Y:=af (tf h4 a6);clear h4;go_wp2_with fail;apply HB.mono;rintro e x4⟨k4,⟨C,rfl,a7⟩,r4⟩;have N:=af (x.trans k4);have R:=af r4;have al:=af a7;have a9:b<x3.heap.size:=Q.lt;clear k4 r4 HB x Q a7 e3;have P:=af (BO b q4 (nL+nD) x3.heap.size s B C x4 R Y.1 y.1 (by omega) al a9 Y.2.2.1);have e5:((nL+nD:Nat):Int)=(nL:Int)+(nD:Int):=by omega
  rw[e5]at P;clear e5;unfold LnP at P;rcases h5:lnG (ak s) (8*s.size) B (nL+nD) q4 []with _|⟨A,q5⟩
  .
   rw[h5]at P f;have t:Hid (d=none):=by show d=none;rw[←ae f];rfl
   clear h5 f;go_wp2_with fail;apply P.mono;rintro e x5⟨k5,rfl⟩;refine⟨rfl,?_⟩;unfold dH;rw[ae t];exact⟨(N.trans k5).ku,rfl⟩
  rw[h5]at P f;simp only[a0f]at f;have a5:=af (Hw h5 Y.1);clear h5;go_wp2_with fail;apply P.mono;rintro e x5⟨k5,⟨v,rfl,hv⟩,r5⟩;have D:A.length=nL+nD:=a5.2.2;obtain⟨ga,cap,rfl⟩:=hv.formN D;obtain⟨g,rfl⟩:=hv.somes (by omega);have b3:nL+nD<=cap:=by
   rcases (hv.own D).2 with⟨e,_⟩|⟨g',b2,b5,e,_,_,h1,_⟩
   . cases e
   . simp only[a0L]at e;omega
  have O:=af (N.trans k5);have U:=af (HS.keep1 O r5);have be:=af (bX D (hv.own D));have ba:b<x4.heap.size:=R.lt;have J:x4.heap.size<=x5.heap.size:=k5.1.size;clear k5 r5 P hv N R al;go_wp2_with fail;refine wp_region_held_drew (S:=fun _=>True) bb trivial (fun I=>?_);refine ag 0 (.pointer b) rfl (fun W r=>by go_simp) I ?_;refine ag 1 (.slice g (nL+nD) cap) rfl (fun W r=>by go_simp) I ?_;refine ag 2 (.int .i64 (nL:Nat)) rfl (fun W r=>by go_simp) I ?_;refine ag 5 (.slice g (nL+nD) cap) rfl (fun W r=>by go_simp) I ?_;refine ag 6 (.int .i64 (nL:Nat)) rfl (fun W r=>by go_simp) I ?_;refine ag 3 (.slice g nL cap) rfl (fun W r=>by go_simp;intro h;omega) I ?_;refine ag 7 (.slice (some ⟨g,nL,none⟩) nD (cap-nL)) rfl (fun W r=>by go_simp;rw[a0d (by omega),a0e (by omega)]) I ?_;have a0:Hid (de x5.drew x4.heap.size (some ⟨g,0,none⟩) A):=be.later (a0c _ _).drew;have tl:(A.take nL).length=nL:=by rw[a0u];omega
  have dl:(A.drop nL).length=nD:=by rw[a04];omega
  have l:=af (Ln (some ⟨g,0,none⟩) cap nL x4.heap.size (A.take nL) x5.drew tl (a0.take nL) J (by omega));refine ah 4 fun K H=>?_;go_simp;go_at_call 269;unfold vI at f;cases ab:ap (A.take nL)
  . rw[ab]at l f;simp only[a07,a08]at l f;apply l.mono;rintro e x6⟨Z,rfl⟩;refine⟨rfl,?_⟩;unfold dH;rw[←ae f];exact⟨(O.drew.ku).later Z (show b<x5.drew.heap.size from U.lt),rfl⟩
  rw[ab]at l f;simp only[a0Y]at l f;apply l.mono;rintro e x6⟨Z,F,rfl,E⟩;have a1:=af ((O.drew.ku).later Z (show b<x5.drew.heap.size from U.lt));have V:=af (Sou.later (w:=x5.drew) (show Sou x5.drew b s q5 T from ae U) Z);have L:=af E;have b1:x4.heap.size<=x6.heap.size:=a0E J Z.size;have bk:=af (a0.later Z);refine Shut.out H _ _ trivial (fun bs=>?_);clear H K Z E l;have o:=af (Gy (some ⟨g,nL,none⟩) (cap-nL) nD x4.heap.size (A.drop nL) x6 dl (by have:=bk.drop nL;rwa[a0G]at this) b1 (by omega));refine ah 8 fun K H=>?_;go_simp;go_at_call 270;cases ac:ap (A.drop nL)
  . rw[ac]at o f;simp only[a07,a08]at o f;apply o.mono;rintro e x7⟨b7,rfl⟩;refine⟨rfl,?_⟩;unfold dH;rw[←ae f];exact⟨a1.later b7 V.lt,rfl⟩
  rw[ac]at o f;simp only[a0Y]at o f;apply o.mono;rintro e x7⟨b7,G,rfl,aa⟩;have a2:=af (a1.later b7 V.lt);have bl:=af (V.later b7);have ao:Hid (ff x7 x4.heap.size (A.take nL) (A.drop nL) (F++G)):=⟨F,G,rfl,L.later b7,aa⟩;have bc:=L.later b7;refine Shut.out H _ _ trivial (fun a8=>?_);clear H K b7 aa o;have bd:Hid (prog.built 200 [(0,.agg F),(1,.agg G)]=some (F++G)):=by
   exact nF bc (cf.second ao L.size)
  have X:=af (yd b q5 x4.heap.size s (A.take nL) (A.drop nL) (F++G) T x7 bl y.2.1 a5.1 y.1 ao ba ab ac);rw[ae f]at X;refine aq 9 (.agg (F++G)) rfl (uY (by rfl) 200 (.tmp 35) (.tmp 39) rfl (F++G) (.agg F) (.agg G) rfl rfl bd) a8 ?_;refine ah 10 fun K H=>?_;go_simp;go_at_call 266;refine X.mono ?_;intro e x8 h8;unfold dH at h8;rcases d with _|⟨T',q⟩
  . obtain⟨k8,rfl⟩:=h8;refine⟨rfl,?_⟩;unfold dH;exact⟨a2.trans k8,rfl⟩
  .
   obtain⟨k8,rfl,s8⟩:=h8;have HY:=af (a0b (a2.trans k8) s8);refine Shut.out H _ _ trivial (fun b0=>?_);clear H K k8 s8 X;refine wpAnyH_done (by kernel_rfl) ?_ _;clear I bs a8 b0;go_wp2
   go_end0
   unfold dH;exact⟨HY.1,rfl,HY.2⟩
 .
  rw[a0e hA]at f;have t:Hid (d=none):=by show d=none;rw[←ae f]
  by_cases z:a+257<=286
  .
   have E:(a:Int)+256+1<=286:=(by omega);have aa:decide ((c:Int)+1<=30)=false:=a0m (by omega);clear hA z;go_wp2_with fail;apply(gm _).mono;rintro e x3⟨rfl,k⟩;rw[k];clear k x3;refine⟨rfl,?_⟩;unfold dH;rw[ae t];exact⟨u.ku,rfl⟩
  . have E:decide ((a:Int)+256+1<=286)=false:=a0m (by omega);clear hA z;go_wp2_with fail;apply(gm _).mono;rintro e x3⟨rfl,k⟩;rw[k];clear k x3;refine⟨rfl,?_⟩;unfold dH;rw[ae t];exact⟨u.ku,rfl⟩
def MR(sz p:Nat)(T:List UInt8)(d:Option (List UInt8×Nat))(T':List UInt8)(q:Nat)(f:Bool):Prop:=
 (f=false->q<=sz/\p<=q/\T'.length<=300+q)/\(T.length<=300->f=false->T'.length<=300->d=some (T',q))/\(T.length<=300->(f=true∨300<T'.length)->d=none)/\(300<T.length->f=true∨300<T'.length)
def MP(w:World)(b p:Nat)(s:ByteArray)(T:List UInt8)(d:Option (List UInt8×Nat))(e:Ending)(w':World):Prop:=
 KU b w w'/\∃v T' q f,e = .returned v/\bC w' (b+1) v T'/\RF w' b s q f/\MR (8*s.size) p T d T' q f
def MR.bad(h:T.length<=300->d=none):MR sz p T d T' q true:=
 ⟨nofun,fun _=>nofun,fun a _=>h a,fun _=>.inl rfl⟩
def mb(R:List UInt8)(y:Nat)(b:y<256):fX R ((y:Nat),0,0)=if R.length+1<=300 then some (R++[gt (y:Nat)])else none:=by
 have a:isB (((y:Nat):Int),0,0)=true:=by unfold isB inB;simp;omega
 unfold fX lC;rw[a];simp
def Gk: ∀(n p:Nat) (T T':List UInt8) (q:Nat),dV V sz n p T=some (T',q)->T'.length=T.length+n/\(0<n->T'.length<=300):=by
 intro n;induction n with
 | zero=>
  intro p T T' q h;simp only[dV,a0l,a0R]at h;obtain⟨rfl,rfl⟩:=h;exact⟨rfl,fun h=>by omega⟩
 | succ n ih=>
  intro p T T' q h;simp only[dV]at h;rcases a:rdN V sz p 8 with _|⟨x,r⟩
  . rw[a]at h;cases h
  .
   rw[a]at h;simp only[a0f]at h;have c:=bV a;rw[mb T x (by have:=c.2.2.2;omega)]at h
   split at h
   .
    simp only[a0f]at h;obtain⟨a1,a2⟩:=ih _ _ _ _ h;rw[a0i,a1l]at a1;refine⟨by omega,fun _=>?_⟩;rcases a2n n with b|b
    . omega
    . exact a2 b
   . cases h
def Cy(h:300<n):dV V sz n p T=none:=by
 rcases a:dV V sz n p T with _|⟨T',q⟩
 . rfl
 . have:=Gk _ _ _ _ _ a;have:=this.2 (by omega);omega
def StI(sz V x q0:Nat)(T:List UInt8)(d:Option (List UInt8×Nat))(k q:Nat)(R:List UInt8)(f:Bool):Prop:=
 k<=x/\T.length<=R.length/\R.length<=T.length+k/\(f=false->q<=sz/\q0<=q/\R.length<=300+q/\(R.length<=300->dV V sz (x-k) q R=d)/\(300<R.length->T.length<=300->d=none))/\(f=true->T.length<=300->d=none)
def StI.next{x i:Nat}(h:StI sz V x i T d k q R false)(f:k<x):StI sz V x i T d (k+1) (q+8) (R++[gt ((V/2 ^ q%2 ^ 8:Nat):Int)]) (false || decide (sz<q+8)):=by
 obtain⟨l,h2,m,j,_⟩:=h;obtain⟨a1,a2,a3,a4,a5⟩:=j rfl;have e:x-k=(x-(k+1))+1:=by omega
 have g:V/2 ^ q%2 ^ 8<256:=a0Z _ (by decide);rw[a2q];have n:(R++[gt ((V/2 ^ q%2 ^ 8:Nat):Int)]).length=R.length+1:=by simp
 by_cases c:sz<q+8
 .
  rw[a0B c];refine⟨f,by omega,by omega,nofun,fun _ b=>?_⟩;by_cases a:R.length<=300
  . rw[←a4 a,e];simp only[dV];rw[fS (by omega)];rfl
  . exact a5 (by omega) b
 .
  rw[a0m c];refine⟨f,by omega,by omega,fun _=>⟨by omega,by omega,by omega,fun h=>?_,fun h b=>?_⟩,nofun⟩
  . have:=a4 (by omega);rw[e]at this;simp only[dV]at this;rw[dn (by omega)]at this;simp only[a0f]at this;rw[mb R _ g,a0d (by omega)]at this;exact this
  .
   by_cases a:R.length<=300
   . have:=a4 a;rw[e]at this;simp only[dV]at this;rw[dn (by omega)]at this;simp only[a0f]at this;rw[mb R _ g,a0e (by omega)]at this;exact this.symm
   . exact a5 (by omega) b
def StI.done{x b:Nat}(h:StI sz V x b T d k q R f)(n:p<=b)(i:f=true∨¬ k<x):MR sz p T d R q f:=by
 obtain⟨l,h2,m,c,e⟩:=h;cases f
 .
  obtain⟨a1,a2,a3,a4,a5⟩:=c rfl;have j:x-k=0:=by
   rcases i with h|h
   . cases h
   . omega
  refine⟨fun _=>⟨a1,by omega,a3⟩,fun a _ g=>?_,fun a h=>?_,fun a=>.inr (by omega)⟩
  . rw[←a4 g,j];rfl
  .
   rcases h with h|h
   . cases h
   . exact a5 h a
 . exact MR.bad (e rfl)
def MS(w:World)(b:Nat)(s:ByteArray)(x:World)(v:Value)(R:List UInt8)(q:Nat)(f:Bool):Prop:=KU b w x/\bC x (b+1) v R/\RF x b s q f
def MS.keep1{f':Bool}(h:MS w b s x v R q f)(a:aw b x x')(c:RF x' b s q' f'):MS w b s x' v R q' f':=⟨h.1.trans a.ku,h.2.1.keep1 a (a0j _),c⟩
def MS.setBad(h:MS w b s x v R q f):MS w b s (x.setCell ⟨b,2,none⟩ (.bool true)) v R q true:=h.keep1 (bT _ _ _ _) h.2.2.setBad
def MS.lt(h:MS w b s x v R q f):b<x.heap.size:=h.2.2.lt
def MS.belU{a:List UInt8}(h:MS w b s x v R q f)(hb:eo (b+1) x x')(e:bC x' (b+1) v' a):MS w b s x' v' a q f:=
 ⟨h.1.trans ⟨hb.1.mono (a06 _),fun j c _ d=>hb.2 j c d⟩,e,h.2.2.kept hb.1⟩
def MS.end(h:MS w b s x v R q f)(a:MR (8*s.size) p T d R q f):MP w b p s T d (.returned v) x:=⟨h.1,v,R,q,f,rfl,h.2.1,h.2.2,a⟩
def oD(h:gz V p=none):dX V sz p T=none:=by unfold dX;rw[h];rfl
def uv(h:gz V p=some q):dX V sz p T=(rdN V sz q 16).bind fun a=>(rdN V sz a.2 16).bind fun c=>if c.1=65535-a.1 then dV V sz a.1 c.2 T else none:=by unfold dX;rw[h];rfl
def oE(h:gz V p=some q)(b:sz<q+32):dX V sz p T=none:=by
 rw[uv h];by_cases a:q+16<=sz
 . rw[dn a];simp only[a0f];rw[fS (by omega)];rfl
 . rw[fS a];rfl
def qy(h:gz V p=some q)(a:q+32<=sz):dX V sz p T=if V/2 ^ (q+16)%2 ^ 16=65535-V/2 ^ q%2 ^ 16 then dV V sz (V/2 ^ q%2 ^ 16) (q+32) T else none:=by
 rw[uv h,dn (by omega)];simp only[a0f];rw[dn (by omega)];simp only[a0f]
def Mg(h:gz V p=some q)(b:¬ V/2 ^ (q+16)%2 ^ 16=65535-V/2 ^ q%2 ^ 16):dX V sz p T=none:=by
 by_cases a:q+32<=sz
 . rw[qy h a,a0e b]
 . exact oE h (by omega)
def Iy(h:gz V p=some q)(b:300<V/2 ^ q%2 ^ 16):dX V sz p T=none:=by
 by_cases a:q+32<=sz
 .
  rw[qy h a]
  split
  . exact Cy b
  . rfl
 . exact oE h (by omega)
def Iz(b p n cap:Nat)(a:Option Addr)(s:ByteArray)(T:List UInt8)(w:World)(hn:T.length=n)(ho:bC w (b+1) (.slice a n cap) T)(hr:Rdr w b s p)(hp:p<=8*s.size)(hs:s.size<=2000)(hT:n<=300+p) :
  Calls prog 228 #[.pointer b,.slice a n cap] w (MP w b p s T (dX (ak s) (8*s.size) p T)):=by
 obtain⟨i0,hi,a9,ba,bb⟩:=a0p Tryz.infoU8;obtain⟨d,hd⟩:∃d,dX (ak s) (8*s.size) p T=d:=⟨_,rfl⟩;rw[hd];have U:RF w b s p false:=by have:=eO hr;rwa[a0m (by omega)]at this
 have F:Hid (MS w b s w (.slice a n cap) T p false):=⟨KU.refl _ _,ho,U⟩;have V:=af (sd b p false s w U hp (by omega));have E:=af (a0b hs (a0b hn (a0b hT hp)));have O:=af hd;clear hn ho hr hs hT hd U;have a1:p+(8-p%8)%8<=8*s.size:=by omega
 have H:Hid (gz (ak s) p=if ak s/2 ^ p%2 ^ ((8-p%8)%8)=0 then some (p+(8-p%8)%8)else none):=rfl;generalize a8:p+(8-p%8)%8=q1 at *;have P:Hid (p<=q1):=by show p<=q1;omega
 clear a8 hp;have a3:=af a1;clear a1;go_enter func228,ntmps228;by_cases z:ak s/2 ^ p%2 ^ ((8-p%8)%8)=0
 .
  rw[a0B z]at V;rw[a0d z]at H;clear z;go_wp2_with fail;apply V.mono;rintro e x1⟨rfl,W,k1⟩;have t:=af (F.keep1 k1 W);clear k1 W V F;have r:=af (jR b q1 16 false s x1 t.2.2 (fun _=>ae a3) (by have:=ae E;omega) (by omega));rw[a2q]at r;go_wp2_with fail;apply r.mono;rintro e x2⟨rfl,r2,k2⟩;have u:=af (t.keep1 k2 r2);clear k2 r2 r t;have r:=af (jR b (q1+16) 16 _ s x2 u.2.2 (fun h=>by have:=of_decide_eq_false h;omega) (by have:=ae E;omega) (by omega));obtain⟨X,hX⟩:∃X,ak s/2 ^ q1%2 ^ 16=X:=⟨_,rfl⟩;obtain⟨Y,hY⟩:∃Y,ak s/2 ^ (q1+16)%2 ^ 16=Y:=⟨_,rfl⟩;have a4:(X:Int)<=65535:=by
   have:ak s/2 ^ q1%2 ^ 16<65536:=a0Z _ (by decide);omega
  have a5:(Y:Int)<=65535:=by
   have:ak s/2 ^ (q1+16)%2 ^ 16<65536:=a0Z _ (by decide);omega
  have a6:∃f,(decide (8*s.size<q1+16) || decide (8*s.size<q1+16+16))=f/\f=decide (8*s.size<q1+32):=⟨_,rfl,by rw[a2h];simp;omega⟩;obtain⟨f,al,ao⟩:=a6;rw[al,hY]at r;rw[hX];have Hf:=af ao;have C:=af (a0b hX hY);clear al ao hX hY;go_wp2_with fail;apply r.mono;rintro e x3⟨rfl,r3,k3⟩;have j:=af (u.keep1 k3 r3);clear k3 r3 r u;obtain⟨c3,f3⟩:=j.2.2.bad;by_cases o:Y=65535-X
  .
   by_cases x:300<X
   .
    have gI:(300:Int)<(X:Int):=(by omega);have g1:(Y:Int)=65535-(X:Int):=(by omega);have c:Hid (T.length<=300->d=none):=fun _=>by rw[←ae O];exact(Iy H (by rw[C.1];exact x))
    clear o x;have l:=af (ae j).setBad;go_wp2_with fail;generalize x3.setCell ⟨b,2,none⟩ (.bool true)=XW at *;have g:=af (ae l);have c4:=g.2.2.bad.1
    go_loopw [1,6] (fun v i wr=>v = .slice a n cap/\i = .int .i64 0/\wr=XW) (fun _ _ _=>0)
    case atStart=>exact⟨rfl,rfl,rfl⟩
    case round=>
     obtain⟨rfl,rfl,rfl⟩:=hrel;by_cases h0:0<X
     . go_wp2;go_ret;exact g.end (MR.bad c)
     . go_wp2;go_ret;exact g.end (MR.bad c)
   .
    have gI:¬ (300:Int)<(X:Int):=(by omega);have g1:(Y:Int)=65535-(X:Int):=(by omega);cases f
    .
     have Q:q1+32<=8*s.size:=by have:=ae Hf;have:=of_decide_eq_false this.symm;omega
     have Z:Hid (StI (8*s.size) (ak s) X (q1+32) T d 0 (q1+32) T false):=by
      refine⟨a0g _,a0a _,a0a _,fun _=>⟨Q,a0a _,by have:=ae E;have:=ae P;omega,fun _=>?_,fun h1 h2=>by omega⟩,nofun⟩;rw[←ae O,qy H Q,C.1,C.2,a0d o];rfl
     have Hn:=af (ae E).2.1;have aa:Hid (n<=300+p/\p<=8*s.size/\s.size<=2000):=⟨E.2.2.1,E.2.2.2,E.1⟩;have L:Hid (MS w b s x3 (.slice a n cap) T (q1+32) false):=ae j;clear o x Q j;go_wp2_with fail
     go_loopw [1,6] (fun v i wr=>∃(k q:Nat) (R:List UInt8) (f:Bool),i = .int .i64 k/\MS w b s wr v R q f/\StI (8*s.size) (ak s) X (q1+32) T d k q R f) (fun _ i _=>X-(intOf i).toNat)
     case atStart=>exact⟨0,q1+32,T,false,rfl,L,Z⟩
     case round=>
      obtain⟨k,q,R,f,rfl,I,J⟩:=hrel;clear L Z c3 f3;have bc:=J.1;obtain⟨m,hm⟩:∃m,R.length=m:=⟨_,rfl⟩;obtain⟨va,vc,rfl⟩:=I.2.1.formN hm;obtain⟨c2,f2⟩:=I.2.2.bad;have A:=af I;have B:=af J;have be:m<=20000:=by have:=J.2.2.1;have:=ae aa;have:=ae Hn;omega
      have Hm:=af hm;clear I J hm;by_cases hk:k<X
      .
       have a7:(k:Int)<(X:Int):=(by omega);cases f
       .
        have r:=af (jR b q 8 false s wr A.2.2 (fun _=>(B.2.2.2.1 rfl).1) (by have:=ae aa;omega) (by omega));have M:=af (B.next hk);obtain⟨y,hy⟩:∃y,ak s/2 ^ q%2 ^ 8=y:=⟨_,rfl⟩;have bk:y<256:=by rw[←hy];exact a0Z _ (by decide)
        have hu:IntKind.u8.wrap (y:Int)=(y:Int):=Ab (by omega) (by omega);rw[hy]at r M;clear hy;go_wp2_with fail;apply r.mono;rintro e x5⟨rfl,r5,k5⟩;have G:=af (A.keep1 k5 r5);have S:=af (G.2.1.own Hm);have ac:b+1<=x5.heap.size:=G.lt;have bd:Hid (m+1<=maxLen/\(m+1)*1<=140737488355328):=by show _/\_;unfold maxLen;omega
        clear r5 k5 r A c2 f2 B;go_wp2_with (at_builtin;refine a0w _ rfl _ _ 22 rfl (b+1) 5 i0 (.int .u8 0) 1 1 a01 hi a9 ba bb rfl (by decide) (.slice va m vc) _ _ rfl (a0o S _) ⟨x5.heap.size,0,none⟩ 1 1 [.int .u8 (y:Int)] rfl rfl (cK _ _ rfl _ _) (one_byte _) bd.1 bd.2 (ar ac _) ?_;intro v' x6 N D a0;clear a0);have ad:eo (b+1) x5 x6:=jA D S (a0a _) ac (eo.refl _ _);have ab:bC x6 (b+1) v' (R++[gt (y:Int)]):=f9 Hm (by rw[kw (by omega) (by omega)];exact N);have a2:=af (G.belU ad ab);clear N D ad ab G S;go_wp2_with fail;go_roundw
        case rel=>exact⟨k+1,q+8,_,_,by go_num,a2,M⟩
        case measure=>simp[intOf];omega
       . go_wp2;go_ret;exact A.end (B.done (by have:=ae P;omega) (.inl rfl))
      .
       have a7:¬ (k:Int)<(X:Int):=(by omega);go_wp2;go_ret;exact A.end (B.done (by have:=ae P;omega) (.inr hk))
    .
     have c:Hid (T.length<=300->d=none):=fun _=>by rw[←ae O];exact oE H (a3y Hf.symm)
     clear o x;go_wp2_with fail;have g:=j;generalize x3=XW at *;have c4:=g.2.2.bad.1
     go_loopw [1,6] (fun v i wr=>v = .slice a n cap/\i = .int .i64 0/\wr=XW) (fun _ _ _=>0)
     case atStart=>exact⟨rfl,rfl,rfl⟩
     case round=>
      obtain⟨rfl,rfl,rfl⟩:=hrel;by_cases h0:0<X
      . go_wp2;go_ret;exact g.end (MR.bad c)
      . go_wp2;go_ret;exact g.end (MR.bad c)
  .
   have g1:¬ (Y:Int)=65535-(X:Int):=(by omega);have c:Hid (T.length<=300->d=none):=fun _=>by rw[←ae O];exact(Mg H (by rw[C.1,C.2];exact o))
   clear o;have l:=af (ae j).setBad;go_wp2_with fail;generalize x3.setCell ⟨b,2,none⟩ (.bool true)=XW at *;have g:=af (ae l);have c4:=g.2.2.bad.1
   go_loopw [1,6] (fun v i wr=>v = .slice a n cap/\i = .int .i64 0/\wr=XW) (fun _ _ _=>0)
   case atStart=>exact⟨rfl,rfl,rfl⟩
   case round=>
    obtain⟨rfl,rfl,rfl⟩:=hrel;by_cases h0:0<X
    . go_wp2;go_ret;exact g.end (MR.bad c)
    . go_wp2;go_ret;exact g.end (MR.bad c)
 .
  rw[a0m z]at V;rw[a0e z]at H;clear z;go_wp2_with fail;apply V.mono;rintro e x1⟨rfl,W,k1⟩;obtain⟨c1,f1⟩:=W.bad;have K:=af (F.keep1 k1 W).setBad;clear k1 W V F;go_wp2_with fail;have t:=af (ae K);generalize x1.setCell ⟨b,2,none⟩ (.bool true)=x1b at *;clear K c1 f1;have r:=af (jR b q1 16 true s x1b t.2.2 nofun (by have:=ae E;omega) (by omega));rw[a3p]at r;apply r.mono;rintro e x2⟨rfl,r2,k2⟩;have u:=af (t.keep1 k2 r2);clear k2 r2 r t;have r:=af (jR b (q1+16) 16 true s x2 u.2.2 nofun (by have:=ae E;omega) (by omega));rw[a3p]at r;obtain⟨X,hX⟩:∃X,ak s/2 ^ q1%2 ^ 16=X:=⟨_,rfl⟩;obtain⟨Y,hY⟩:∃Y,ak s/2 ^ (q1+16)%2 ^ 16=Y:=⟨_,rfl⟩;have a4:(X:Int)<=65535:=by
   have:ak s/2 ^ q1%2 ^ 16<65536:=a0Z _ (by decide);omega
  have a5:(Y:Int)<=65535:=by
   have:ak s/2 ^ (q1+16)%2 ^ 16<65536:=a0Z _ (by decide);omega
  rw[hY]at r;rw[hX];clear hX hY;go_wp2_with fail;apply r.mono;rintro e x3⟨rfl,r3,k3⟩;have j:=af (u.keep1 k3 r3);clear k3 r3 r u;obtain⟨c3,f3⟩:=j.2.2.bad;by_cases o:Y=65535-X
  .
   by_cases x:300<X
   .
    have gI:(300:Int)<(X:Int):=(by omega);have g1:(Y:Int)=65535-(X:Int):=(by omega);have c:Hid (T.length<=300->d=none):=fun _=>by rw[←ae O];exact oD H
    clear o x;have l:=af (ae j).setBad;go_wp2_with fail;generalize x3.setCell ⟨b,2,none⟩ (.bool true)=XW at *;have g:=af (ae l);have c4:=g.2.2.bad.1
    go_loopw [1,6] (fun v i wr=>v = .slice a n cap/\i = .int .i64 0/\wr=XW) (fun _ _ _=>0)
    case atStart=>exact⟨rfl,rfl,rfl⟩
    case round=>
     obtain⟨rfl,rfl,rfl⟩:=hrel;by_cases h0:0<X
     . go_wp2;go_ret;exact g.end (MR.bad c)
     . go_wp2;go_ret;exact g.end (MR.bad c)
   .
    have gI:¬ (300:Int)<(X:Int):=(by omega);have g1:(Y:Int)=65535-(X:Int):=(by omega);have c:Hid (T.length<=300->d=none):=fun _=>by rw[←ae O];exact oD H
    clear o x;go_wp2_with fail;have g:=j;generalize x3=XW at *;have c4:=g.2.2.bad.1
    go_loopw [1,6] (fun v i wr=>v = .slice a n cap/\i = .int .i64 0/\wr=XW) (fun _ _ _=>0)
    case atStart=>exact⟨rfl,rfl,rfl⟩
    case round=>
     obtain⟨rfl,rfl,rfl⟩:=hrel;by_cases h0:0<X
     . go_wp2;go_ret;exact g.end (MR.bad c)
     . go_wp2;go_ret;exact g.end (MR.bad c)
  .
   have g1:¬ (Y:Int)=65535-(X:Int):=(by omega);have c:Hid (T.length<=300->d=none):=fun _=>by rw[←ae O];exact oD H
   clear o;have l:=af (ae j).setBad;go_wp2_with fail;generalize x3.setCell ⟨b,2,none⟩ (.bool true)=XW at *;have g:=af (ae l);have c4:=g.2.2.bad.1
   go_loopw [1,6] (fun v i wr=>v = .slice a n cap/\i = .int .i64 0/\wr=XW) (fun _ _ _=>0)
   case atStart=>exact⟨rfl,rfl,rfl⟩
   case round=>
    obtain⟨rfl,rfl,rfl⟩:=hrel;by_cases h0:0<X
    . go_wp2;go_ret;exact g.end (MR.bad c)
    . go_wp2;go_ret;exact g.end (MR.bad c)
def agG(V sz:Nat)(D:List Int)(k p:Nat)(T:List UInt8):Option (List UInt8×Nat):=(gK V sz D k p).bind fun t=>(lC T t.1).bind fun x=>some (x,t.2)
def AgP(w:World)(b:Nat)(s:ByteArray)(d:Option (List UInt8×Nat))(e:Ending)(w':World):Prop:=
 KU b w w'/\∃v T' q f,e = .returned v/\bC w' (b+1) v T'/\RF w' b s q f/\d=if f=true then none else some (T',q)
theorem JV(b C n cap k nD a1 bc:Nat)(a ad acd:Option Addr)(s:ByteArray)(T:List UInt8)(D:List Int)(w:World)(hn:T.length=n)(ho:bC w (b+1) (.slice a n cap) T)(hr:Rdr w b s C)(hp:C<=8*s.size)(hs:s.size<=2000)(hT:n<=300)(hk:k<=700)
  (hD:D.length=nD) (b9:ap D=true) (cg:∀W,aw b w W->bE W ad D) (ca:∀W,aw b w W->bE W acd (aW D 15).2) :
  Calls prog 259 #[.pointer b,.slice a n cap,.int .i64 ((k:Nat)+257),.slice ad nD a1,.slice acd nD bc] w (AgP w b s (agG (ak s) (8*s.size) D k C T)):=by
 have a9:=cE
 obtain⟨d,hd⟩:∃d,agG (ak s) (8*s.size) D k C T=d:=⟨_,rfl⟩;rw[hd];have HD:=af hd;have cc:RF w b s C false:=by have:=eO hr;rwa[a0m (by omega)]at this
 have HO:=af ho;have bb:=af cc;have HN:=af (a0b hs (a0b hn hT));have ch:=af hp;have al:=af (a0b hD (a0b b9 (a0b cg ca)));have ek:(k:Int)+257-257=(k:Int):=by omega
 have cu:(k:Int)<=700:=by omega
 clear hn ho hr hp hs hT hD b9 cg ca hd cc;go_enter func259,ntmps259;go_wp2_with fail;refine(kp w).mono ?_;rintro e x0⟨rfl,o0,b0⟩;have A:=af ((aw.refl b w).later b0 (ae bb).lt);have l:=af ((ae bb).kept (b0.mono (ae bb).lt));clear o0 b0;by_cases a5:k<28
 .
  have bs:(k:Int)<28:=by omega
  have t:=af a5;obtain⟨E1,hE1⟩:∃E,(stF 3 4 k).1=E:=⟨_,rfl⟩;obtain⟨E2,hE2⟩:∃E,(stF 3 4 k).2=E:=⟨_,rfl⟩;have a3:=tF (L:=3) (G:=4) (k:=k) (by omega) (by omega) (by omega) (by omega);rw[hE1,hE2]at a3;have M:(E1:Int)<=200000:=by omega
  have N:(E2:Int)<=14:=by omega
  have z:Hid (E2<=16):=by show E2<=16;omega
  have P:Hid (((stF 3 4 k).1:Int)=(E1:Int)):=by show _=_;rw[hE1]
  have R:Hid (((stF 3 4 k).2:Int)=(E2:Int)):=by show _=_;rw[hE2]
  obtain⟨X,hX⟩:∃X,ak s/2 ^ C%2 ^ E2=X:=⟨_,rfl⟩;have a8:(X:Int)<=65535:=by
   have h1:ak s/2 ^ C%2 ^ E2<2 ^ E2:=a0Z _ (a1p _);have h2:2 ^ E2<=2 ^ 16:=a0P (by omega) (by omega);have h3:(2:Nat) ^ 16=65536:=by decide
   omega
  have HX:=af hX;have a0:Hid (IntKind.i64.wrap ((E1:Int)+(X:Int))=(E1:Int)+(X:Int)):=by show _=_;rw[a0V];omega
  have y:=af (a0b hE1 hE2);clear a3 hE1 hE2 hX;go_wp2_with fail;go_cut[12] (fun v wx=>v = .int .i64 ((E1+X:Nat):Int)/\aw b w wx/\RF wx b s (C+E2) (decide (8*s.size<C+E2)))
  case first=>
   refine wp_region_held_drew (S:=fun _=>True) a9 trivial (fun _=>?_);refine ag 2 (.int .i64 (k:Nat)) rfl (fun W m=>by go_simp) trivial ?_;refine ag 5 (.pointer b) rfl (fun W m=>by go_simp) trivial ?_;refine ag 7 (.int .i64 (k:Nat)) rfl (fun W m=>by go_simp) trivial ?_;refine ah 0 fun K g=>?_;go_simp;go_at_call 234;refine(kp _).mono ?_;rintro e y1⟨rfl,o1,b1⟩;have u:=af ((ae A).drew.later b1 (show b<x0.drew.heap.size from(ae l).lt));have r:=af (RF.kept (w:=x0.drew) (show RF x0.drew b s C false from ae l) (b1.mono (ae l).lt));have ba:=af (o1.rowN rfl);clear o1 b1;refine Shut.out g _ _ trivial (fun _=>?_);clear g K;refine ah 1 fun K g=>?_;go_simp;go_at_call 233;refine(kM _ 28 y1 (ae ba)).mono ?_;rintro e y2⟨v2,rfl,o2,b2⟩;have J:(lp).length=28:=lY _ _ _;obtain⟨a2,b8,rfl⟩:=o2.formN J;obtain⟨g2,rfl⟩:=o2.somes (by omega);have o:g2<y2.heap.size:=o2.below.2;have ao:Hid (g2≠b):=by show g2≠b;have:=o2.below.1;have:=(ae r).lt;omega
   have c:=(o2.at J (show k<28 from ae t)).1;rw[Eo _ (ae t),ae P]at c;have q:=af ((ae u).later b2 (ae r).lt);have f:=af ((ae r).kept (b2.mono (ae r).lt));clear o2 b2 J;refine Shut.out g _ _ trivial (fun _=>?_);clear g K;refine fw (S':=fun W=>W.cell? ⟨g2,k,none⟩=some (.int .i64 (E1:Nat))) (fun _ _=>trivial) _ _ _ _ ?_;refine ag 3 (.pointer (some ⟨g2,k,none⟩)) rfl (fun W m=>by go_simp<;>(intro h;omega)) c ?_;refine ag 4 (.int .i64 (E1:Nat)) rfl (fun W m=>by go_simp) c ?_;refine ah 6 fun K g=>?_;go_simp;go_at_call 234;refine(kp _).mono ?_;rintro e y3⟨rfl,o3,I⟩;have be:=(o3.at rfl (show k<28 from ae t)).1;rw[Ep _ (ae t),ae R]at be;have c:=(I.cell (p:=⟨g2,k,none⟩) o).trans c;have V:=af ((ae q).later I (ae f).lt);have Z:=af ((ae f).kept (I.mono (ae f).lt));have O:g2<y3.heap.size:=a0h o I.size;generalize bk:y2.heap.size=g3 at *
   clear o3 I bk;refine Shut.out g _ _ c (fun _=>?_);clear g K;refine ag 8 (.pointer (some ⟨g3,k,none⟩)) rfl (fun W m=>by go_simp<;>(intro h;omega)) c ?_;refine ah 9 fun K g=>?_;go_simp;refine Shut.out g _ _ c (fun _=>?_);clear g K;refine ah 10 fun K g=>?_;go_simp;go_at_call 227;have HM:=af (jR b C E2 false s y3 (ae Z) (fun _=>ae ch) (by have:=ae HN;omega) (ae z));rw[a2q,ae HX]at HM;refine(ae HM).mono ?_;rintro e y4⟨rfl,r4,k4⟩;have c:y4.cell? ⟨g2,k,none⟩=some (.int .i64 (E1:Nat)):=(World.cell?_of_block (w:=y3) (k4.2 _ O (ae ao)) (a:=⟨g2,k,none⟩)).trans c;have Y:=af ((ae V).trans k4);have B:=af r4;clear r4 k4;refine Shut.out g _ _ c (fun _=>?_);clear g K;refine ag 11 (.int .i64 ((E1+X:Nat):Int)) rfl (fun W m=>by go_simp;exact ae a0) c ?_;refine ah 12 fun K g=>?_;go_simp;refine Shut.out g _ _ c (fun _=>?_);clear g K;refine wpAnyH_done (by kernel_rfl) ?_ _;clear HM;go_wp2_with fail
   go_meet
   case rel=>exact⟨rfl,ae Y,ae B⟩
  case rest=>
   obtain⟨rfl,aa,ab⟩:=hcut;clear a0;have HL:=af (a0b (ae y) (ae HX));have cp:((E1+X:Nat):Int)<=300000:=by omega
   obtain⟨LG,hLG⟩:∃L,E1+X=L:=⟨_,rfl⟩;rw[hLG]at cp ⊢;have b5:=af hLG;by_cases hc:C+E2<=8*s.size
   .
    rw[a0m (by omega)]at ab;have a7:Hid (scG (ak s) (8*s.size) 3 4 28 k C=some (LG,C+E2)):=by
     show _=_;unfold scG;rw[a0d (ae t),(ae y).2,dn hc,(ae y).1];simp only[a0f];rw[ae HX,ae b5]
    have H:=af (tI ad acd a1 bc nD b (C+E2) D s wc (ae al).1 (ae al).2.1 (by have:=ae HN;omega) (qt ab hc) hc (fun W hW=>(ae al).2.2.1 W (aa.trans hW)) (fun W hW=>(ae al).2.2.2 W (aa.trans hW)));have u:=af aa;clear aa ab hLG M N a8 P R z y HX b5 HL;unfold qH at H;rcases h2:dec D (ak s) (8*s.size) (C+E2)with _|⟨j,q2⟩
    .
     rw[h2]at H;have Hn:Hid (d=none):=by
      show d=none;rw[←ae HD];unfold agG gK;rw[ae a7];simp only[a0f];rw[h2];rfl
     clear h2;go_wp2_with fail;refine(ae H).mono ?_;rintro e x2⟨k2,xx,qq,rfl,r2⟩;have q:=af ((ae u).trans k2);have f:=af r2;obtain⟨c2,f2⟩:=r2.bad;have o:=r2.lt;clear r2 k2 u H;go_wp2;go_ret;refine⟨((ae q).trans (bT _ _ _ _)).ku,_,T,_,true,rfl,((ae HO).keep1 (ae q) (a0j _)).keep1 (bT _ _ _ _) (a0j _),(ae f).setBad,?_⟩;rw[ae Hn];rfl
    .
     rw[h2]at H;have bd:=gB h2;obtain⟨jn,hj⟩:=a0r bd.2.2.1;subst hj;have cs:(jn:Int)<=300:=by have:=cG (ae al).2.1;omega
     have H2:=af h2;have b7:=af bd.1;clear h2 bd;go_wp2_with fail;refine(ae H).mono ?_;rintro e x2⟨k2,rfl,r2⟩;have q:=af ((ae u).trans k2);have f:Hid (RF x2 b s q2 false):=by have:=eO r2;rwa[a0m (by have:=ae b7;omega)]at this
     obtain⟨c2,f2⟩:=(ae f).bad;clear r2 k2 u H A l;go_wp2_with fail;refine(kh x2).mono ?_;rintro e x3⟨rfl,o3,I⟩;have A:=af ((ae q).later I (ae f).lt);have l:=af ((ae f).kept (I.mono (ae f).lt));clear o3 I q f c2 f2;by_cases a4:jn<30
     .
      have bl:(jn:Int)<30:=by omega
      have t:=af a4;obtain⟨E1,hE1⟩:∃E,(stF 1 2 jn).1=E:=⟨_,rfl⟩;obtain⟨E2,hE2⟩:∃E,(stF 1 2 jn).2=E:=⟨_,rfl⟩;have a3:=tF (L:=1) (G:=2) (k:=jn) (by omega) (by omega) (by omega) (by omega);rw[hE1,hE2]at a3;have M:(E1:Int)<=200000:=by omega
      have N:(E2:Int)<=14:=by omega
      have z:Hid (E2<=16):=by show E2<=16;omega
      have P:Hid (((stF 1 2 jn).1:Int)=(E1:Int)):=by show _=_;rw[hE1]
      have R:Hid (((stF 1 2 jn).2:Int)=(E2:Int)):=by show _=_;rw[hE2]
      obtain⟨X,hX⟩:∃X,ak s/2 ^ q2%2 ^ E2=X:=⟨_,rfl⟩;have a8:(X:Int)<=65535:=by
       have h1:ak s/2 ^ q2%2 ^ E2<2 ^ E2:=a0Z _ (a1p _);have h2:2 ^ E2<=2 ^ 16:=a0P (by omega) (by omega);have h3:(2:Nat) ^ 16=65536:=by decide
       omega
      have HX:=af hX;have a0:Hid (IntKind.i64.wrap ((E1:Int)+(X:Int))=(E1:Int)+(X:Int)):=by show _=_;rw[a0V];omega
      have y:=af (a0b hE1 hE2);clear a3 hE1 hE2 hX;go_wp2_with fail;go_cut[13] (fun v wx=>v = .int .i64 ((E1+X:Nat):Int)/\aw b w wx/\RF wx b s (q2+E2) (decide (8*s.size<q2+E2)))
      case first=>
       refine wp_region_held_drew (S:=fun _=>True) a9 trivial (fun _=>?_);refine ag 2 (.int .i64 (jn:Nat)) rfl (fun W m=>by go_simp) trivial ?_;refine ag 5 (.pointer b) rfl (fun W m=>by go_simp) trivial ?_;refine ag 7 (.int .i64 (jn:Nat)) rfl (fun W m=>by go_simp) trivial ?_;refine ah 0 fun K g=>?_;go_simp;go_at_call 235;refine(kh _).mono ?_;rintro e y1⟨rfl,o1,b1⟩;have u:=af ((ae A).drew.later b1 (show b<x3.drew.heap.size from(ae l).lt));have r:=af (RF.kept (w:=x3.drew) (show RF x3.drew b s q2 false from ae l) (b1.mono (ae l).lt));have ba:=af (o1.rowN rfl);clear o1 b1;refine Shut.out g _ _ trivial (fun _=>?_);clear g K;refine ah 1 fun K g=>?_;go_simp;go_at_call 233;refine(kK _ 30 y1 (ae ba)).mono ?_;rintro e y2⟨v2,rfl,o2,b2⟩;have J:(lh).length=30:=lY _ _ _;obtain⟨a2,b8,rfl⟩:=o2.formN J;obtain⟨g2,rfl⟩:=o2.somes (by omega);have o:g2<y2.heap.size:=o2.below.2;have ao:Hid (g2≠b):=by show g2≠b;have:=o2.below.1;have:=(ae r).lt;omega
       have c:=(o2.at J (show jn<30 from ae t)).1;rw[Cm _ (ae t),ae P]at c;have q:=af ((ae u).later b2 (ae r).lt);have f:=af ((ae r).kept (b2.mono (ae r).lt));clear o2 b2 J;refine Shut.out g _ _ trivial (fun _=>?_);clear g K;refine fw (S':=fun W=>W.cell? ⟨g2,jn,none⟩=some (.int .i64 (E1:Nat))) (fun _ _=>trivial) _ _ _ _ ?_;refine ag 3 (.pointer (some ⟨g2,jn,none⟩)) rfl (fun W m=>by go_simp<;>(intro h;omega)) c ?_;refine ag 4 (.int .i64 (E1:Nat)) rfl (fun W m=>by go_simp) c ?_;refine ah 6 fun K g=>?_;go_simp;go_at_call 235;refine(kh _).mono ?_;rintro e y3⟨rfl,o3,I⟩;have be:=(o3.at rfl (show jn<30 from ae t)).1;rw[Co _ (ae t),ae R]at be;have c:=(I.cell (p:=⟨g2,jn,none⟩) o).trans c;have V:=af ((ae q).later I (ae f).lt);have Z:=af ((ae f).kept (I.mono (ae f).lt));have O:g2<y3.heap.size:=a0h o I.size;generalize bk:y2.heap.size=g3 at *
       clear o3 I bk;refine Shut.out g _ _ c (fun _=>?_);clear g K;refine ag 8 (.pointer (some ⟨g3,jn,none⟩)) rfl (fun W m=>by go_simp<;>(intro h;omega)) c ?_;refine ah 9 fun K g=>?_;go_simp;refine Shut.out g _ _ c (fun _=>?_);clear g K;refine ah 10 fun K g=>?_;go_simp;go_at_call 227;have HM:=af (jR b q2 E2 false s y3 (ae Z) (fun _=>ae b7) (by have:=ae HN;omega) (ae z));rw[a2q,ae HX]at HM;refine(ae HM).mono ?_;rintro e y4⟨rfl,r4,k4⟩;have c:y4.cell? ⟨g2,jn,none⟩=some (.int .i64 (E1:Nat)):=(World.cell?_of_block (w:=y3) (k4.2 _ O (ae ao)) (a:=⟨g2,jn,none⟩)).trans c;have Y:=af ((ae V).trans k4);have B:=af r4;clear r4 k4;refine Shut.out g _ _ c (fun _=>?_);clear g K;refine ag 11 (.int .i64 ((E1+X:Nat):Int)) rfl (fun W m=>by go_simp;exact ae a0) c ?_;refine ah 12 fun K g=>?_;go_simp;refine Shut.out g _ _ c (fun _=>?_);clear g K;refine wpAnyH_done (by kernel_rfl) ?_ _;clear HM;go_wp2_with fail
       go_meet
       case rel=>exact⟨rfl,ae Y,ae B⟩
      case rest=>
       obtain⟨rfl,bn,b4⟩:=hcut;clear a0;have co:((E1+X:Nat):Int)<=300000:=by omega
       obtain⟨BK,hBK⟩:∃L,E1+X=L:=⟨_,rfl⟩;rw[hBK]at co ⊢;have a6:Hid (d=if decide (8*s.size<q2+E2)=true then none else(lC T (0,(LG:Int),(BK:Int))).bind fun x=>some (x,q2+E2)):=by
        show d=_;rw[←ae HD];unfold agG gK;rw[ae a7];simp only[a0f];rw[ae H2];simp only[a0f,a0n];unfold scG;rw[a0d (ae t),(ae y).2,(ae y).1];by_cases c:q2+E2<=8*s.size
        . rw[dn c,a0m (by omega)];simp only[a0f,ae HX,hBK];rfl
        . rw[fS c,a0B (by omega)];rfl
       generalize decide (8*s.size<q2+E2)=F at *
       generalize q2+E2=Q at *
       have ac:=af (U.l4Add_any (b+1) n cap a T (0,(LG:Int),(BK:Int)) wc (ae HN).2.1 ((ae HO).keep1 bn (a0j _)) (by have:=ae HN;omega) b4.lt);have V:=af bn;have Z:=af b4;clear bn b4 hBK M N a8 P R z y HX a7 H2;simp only at ac;go_wp2_with fail;refine(ae ac).mono ?_;rintro e x4⟨v,T2,rfl,o4,h4,u4⟩;have B:=af ((ae Z).kept u4.1);have Y:Hid (KU b w x4):=(ae V).ku.trans ⟨u4.1.mono (a06 _),fun j hj _ hn=>u4.2 j hj hn⟩;have b6:=af o4;obtain⟨c4,f4⟩:=(ae B).bad;have cr:=(ae B).lt;clear o4 u4 ac V Z;rcases hA:lC T (0,(LG:Int),(BK:Int))with _|T3
       . rw[hA]at a6;simp only[Option.isSome_none];clear hA h4;go_wp2;go_ret;refine⟨(ae Y).trans (bT _ _ _ _).ku,_,T2,_,true,rfl,(ae b6).keep1 (bT _ _ _ _) (a0j _),(ae B).setBad,?_⟩;rw[ae a6];cases F<;>rfl
       . rw[hA]at a6 h4;simp only[Option.isSome_some,true_implies,a0l]at h4 ⊢;clear hA;go_wp2;go_ret;refine⟨ae Y,_,T2,Q,F,rfl,ae b6,ae B,?_⟩;rw[ae a6,h4];rfl
     .
      have bl:¬ (jn:Int)<30:=by omega
      have Hn:Hid (d=none):=by
       show d=none;rw[←ae HD];unfold agG gK;rw[ae a7];simp only[a0f];rw[ae H2];simp only[a0f,a0n];unfold scG;rw[a0e a4];rfl
      obtain⟨c3,f3⟩:=(ae l).bad;have O:=(ae l).lt;clear a4;go_wp2;go_ret;refine⟨((ae A).trans (bT _ _ _ _)).ku,_,T,_,true,rfl,((ae HO).keep1 (ae A) (a0j _)).keep1 (bT _ _ _ _) (a0j _),(ae l).setBad,?_⟩;rw[ae Hn];rfl
   .
    rw[a0B (by omega)]at ab;have Hn:Hid (d=none):=by
     show d=none;rw[←ae HD];unfold agG gK scG;rw[a0d (ae t),(ae y).2,fS hc];rfl
    have u:=af aa;have r:=af ab;clear aa ab hLG M N a8 P R z y HX;go_wp2_with fail;refine(IE ad acd a1 bc nD b _ s wc (ae r)).mono ?_;rintro e x2⟨rfl,r2,k2⟩;have q:=af ((ae u).trans k2);have f:=af r2;obtain⟨c2,f2⟩:=r2.bad;have o:=r2.lt;clear r2 k2 u r;go_wp2;go_ret;refine⟨((ae q).trans (bT _ _ _ _)).ku,_,T,_,true,rfl,((ae HO).keep1 (ae q) (a0j _)).keep1 (bT _ _ _ _) (a0j _),(ae f).setBad,?_⟩;rw[ae Hn];rfl
 .
  have bs:¬ (k:Int)<28:=by omega
  have Hn:Hid (d=none):=by
   show d=none;rw[←ae HD];unfold agG gK scG;rw[a0e a5];rfl
  obtain⟨c2,f2⟩:=(ae l).bad;have o:=(ae l).lt;clear a5;go_wp2;go_ret;refine⟨((ae A).trans (bT _ _ _ _)).ku,_,T,_,true,rfl,((ae HO).keep1 (ae A) (a0j _)).keep1 (bT _ _ _ _) (a0j _),(ae l).setBad,?_⟩;rw[ae Hn];rfl
def sJ(b sz:Nat)(w:World):Nat:=match w.cell? ⟨b,2,none⟩with
 | some (.bool true)=>0
 | _=>sz+1-mZ b w
def RF.far(h:RF w b s p f):sJ b (8*s.size) w=if f=true then 0 else 8*s.size+1-min p (8*s.size):=by
 unfold sJ mZ;rw[h.bad.1,h.2.1];cases f
 . simp[intOf]
 . rfl
def TmI(b:Nat)(s:ByteArray)(L D:List Int)(g1 g2 p:Nat)(d:Option (List UInt8×Nat))(w:World)(v:Value)(x:World):Prop:=
 ∃(q:Nat) (R:List UInt8) (f:Bool),MS w b s x v R q f/\de x (b+1) (some ⟨g1,0,none⟩) (aW L 15).2/\de x (b+1) (some ⟨g2,0,none⟩) (aW D 15).2/\(f=false->R.length<=400)/\(f=false->q<=8*s.size/\p<=q)/\(f=false->R.length<=300->iP (ak s) (8*s.size) L D q R=d)/\((f=true∨300<R.length)->d=none)
def de.belU{base:Nat}(h:de w base a l)(b:eo base w w'):de w' base a l:=h.moved b.1.size (fun g _ c d=>b.2 g c d)
def QY: ((oneG V sz D ((kk:Int)+257) q).bind fun t=>(fX R t.1).bind fun T'=>iP V sz L D t.2 T')=(agG V sz D kk q R).bind fun x=>if x.1.length<=300 then iP V sz L D x.2 x.1 else none:=by
 have e:oneG V sz D ((kk:Int)+257) q=gK V sz D kk q:=by
  unfold oneG;rw[a0e (by omega),show((kk:Int)+257).toNat-257=kk by omega]
 rw[e];unfold agG;rcases gK V sz D kk q with _|⟨t,r⟩
 . rfl
 .
  simp only[a0f];unfold fX;rcases lC R t with _|x
  . rfl
  .
   simp only[a0f]
   split<;>rfl
def GQ{t:Tk}(h:isK t=true):3<=t.2.1/\t.2.1<=60/\1<=t.2.2/\t.2.2<=250:=by
 unfold isK inB at h;simp only[a0k,a0v]at h;omega
def TE(h:agG V sz D kk q R=some (T',q')):T'.length<=R.length+100:=by
 unfold agG at h;rcases a:gK V sz D kk q with _|⟨t,r⟩
 . rw[a]at h;cases h
 rw[a]at h;simp only[a0f]at h;rcases h2:lC R t with _|x
 . rw[h2]at h;cases h
 rw[h2]at h;simp only[a0f,a0l,a0R]at h;obtain⟨rfl,_⟩:=h;unfold lC at h2
 split at h2
 . simp only[a0l]at h2;subst h2;simp
 .
  split at h2
  . rename_i hK;simp only[a0k]at hK;have:=GQ hK.1;simp only[a0l]at h2;subst h2;rw[rL];omega
  . cases h2
def Tj(h:agG V sz D kk q R=some (T',q')):q'<=sz/\q<=q':=by
 unfold agG at h;rcases a:gK V sz D kk q with _|⟨t,r⟩
 . rw[a]at h;cases h
 rw[a]at h;simp only[a0f]at h;rcases h2:lC R t with _|x
 . rw[h2]at h;cases h
 rw[h2]at h;simp only[a0f,a0l,a0R]at h;obtain⟨_,rfl⟩:=h;exact Cn a
def FD(b p n cap nL A nD z:Nat)(a al ad:Option Addr)(s:ByteArray)(T:List UInt8)(L D:List Int)(w:World)(hn:T.length=n)(ho:bC w (b+1) (.slice a n cap) T)(hr:Rdr w b s p)(hp:p<=8*s.size)(hs:s.size<=2000)(hT:n<=300)
  (hL:L.length=nL) (hD:D.length=nD) (okL:ap L=true) (okD:ap D=true) (jL:de w (b+1) al L) (jD:de w (b+1) ad D) :
  Calls prog 229 #[.pointer b,.slice a n cap,.slice al nL A,.slice ad nD z] w (MP w b p s T (iP (ak s) (8*s.size) L D p T)):=by
 obtain⟨i0,hi,bn,bs,b0⟩:=a0p Tryz.infoU8;obtain⟨d,hd⟩:∃d,iP (ak s) (8*s.size) L D p T=d:=⟨_,rfl⟩;rw[hd];have a8:=hr.lt;have be:RF w b s p false:=by have:=eO hr;rwa[a0m (by omega)]at this
 have lL:=cG okL;have lD:=cG okD;have t:=af (a0b hs (a0b okL (a0b okD (a0b hL (a0b hD (a0b hn hT))))));have H:Hid (MS w b s w (.slice a n cap) T p false):=⟨KU.refl _ _,ho,be⟩;have HJ:=af (a0b jL jD);have HD:=af hd;have Hp:=af hp;have C1:=af (eU al A nL L w hL jL.1 (by omega));clear hn ho hr hp hs hT hL hD okL okD jL jD hd be;go_enter func229,ntmps229;go_wp2_with fail;apply C1.mono;rintro e x1⟨rfl,o1,b1⟩;have C2:=af (eU ad z nD D x1 t.2.2.2.2.1 (HJ.2.later b1).1 (by have:=t.2.2.2.2.1;omega));have Y:(aW L 15).2.length=nL:=by rw[bJ];exact t.2.2.2.1
 have J1:=af ((bX Y (o1.own Y)).mono (b':=b+1) a8);have F:=af b1;clear o1 b1 C1;go_wp2_with fail;apply C2.mono;rintro e x2⟨rfl,o2,b2⟩;have Z:(aW D 15).2.length=nD:=by rw[bJ];exact t.2.2.2.2.1
 have N:b+1<=x1.heap.size:=a0E a8 F.size;have J2:=af ((bX Z (o2.own Z)).mono (b':=b+1) N);have J1':=af (J1.later b2);have hB:Below w.heap.size w x2:=F.trans (b2.mono F.size);generalize x1.heap.size=g2,a4:w.heap.size=g1 at *;have ao:MS w b s x2 (.slice a n cap) T p false:=⟨H.1.later (by rw[a4];exact hB) (by omega),H.2.1.later hB (by omega),H.2.2.kept (hB.mono (by omega))⟩;have h0:(false=true∨300<T.length)->d=none:=by
  rintro(h|h)
  . cases h
  . have:=ae t;omega
 have HI:Hid (TmI b s L D g1 g2 p d w (.slice a n cap) x2):=⟨p,T,false,ao,J1',J2,fun _=>by have:=ae t;omega,fun _=>⟨Hp,a0a _⟩,fun _ _=>ae HD,h0⟩;have HW:Hid (∀W,KU b w W->de W (b+1) al L/\de W (b+1) ad D):=fun W hW=>⟨HJ.1.ku hW (a0j _),HJ.2.ku hW (a0j _)⟩;clear h0 o2 b2 C2 hB ao H F J1 J1' J2 Y Z HD HJ N a4;go_wp2_with fail
 go_loopw [1,11] (fun v _ wr=>TmI b s L D g1 g2 p d w v wr) (fun _ _ wr=>sJ b (8*s.size) wr)
 case atStart=>exact HI
 case round=>
  obtain⟨q,R,f,E,j1,j2,ac,hq,j,bc⟩:=hrel;clear HI;obtain⟨m,hm⟩:∃m,R.length=m:=⟨_,rfl⟩;obtain⟨va,vc,rfl⟩:=E.2.1.formN hm;obtain⟨c2,f2⟩:=E.2.2.bad;have g:=af E;have I:=af (a0b j1 (a0b j2 (a0b hq (a0b j bc))));have x:=af hm;have bk:=af ac;have HF:=af E.2.2.far;clear E j1 j2 hq j bc ac hm;cases f
  .
   have b4:(m:Int)<=400:=by have:=ae bk rfl;have:=ae x;omega
   by_cases a9:m<=300
   .
    have ba:(m:Int)<=300:=(by omega);have hW:=ae HW wr (ae g).1;have hq:=I.2.2.1 rfl;have j:=I.2.2.2.1 rfl (by rw[ae x];exact a9);have i:=af (tI al (some ⟨g1,0,none⟩) A nL nL b q L s wr t.2.2.2.1 t.2.1 (by have:=ae t;omega) (qt g.2.2 hq.1) hq.1 (fun W h=>(hW.1.keep1 h (a0j _)).1) (fun W h=>(I.1.keep1 h (a0j _)).1));have Hq:=af hq;clear hW hq;unfold qH at i;rcases J:dec L (ak s) (8*s.size) q with _|⟨k,P⟩
    . rw[J]at i;rw[zW J]at j;have Hn:Hid (d=none):=j.symm;clear J j;go_wp2_with fail;apply i.mono;rintro e x3⟨r,xx,qq,rfl,u⟩;have c:=af (g.keep1 r u);obtain⟨c3,f3⟩:=u.bad;clear r u i g c2 f2;go_wp2;go_ret;exact c.end (MR.bad (fun _=>ae Hn))
    .
     rw[J]at i;have B:=gB J;have a6:k<=300:=by have:=cG t.2.1;omega
     have V:=B.2.2.1;have l:=af (a0b B.1 B.2.1);by_cases hk:k=256
     .
      subst hk;rw[yb J]at j;have Q:=af j;clear J j B;go_wp2_with fail;apply i.mono;rintro e x3⟨r,rfl,u⟩;have o:RF x3 b s P false:=by have:=eO u;rwa[a0m (by have:=ae l;omega)]at this
      have c:=af (g.keep1 r o);obtain⟨c3,f3⟩:=o.bad;clear r u o i g c2 f2;go_wp2;go_ret;refine c.end ⟨fun _=>⟨l.1,by have:=ae l;have:=ae Hq;omega,by rw[ae x];omega⟩,fun _ _ _=>Q.symm,fun _ h=>?_,fun h=>by have:=ae t;omega⟩;rcases h with h|h
      . cases h
      . rw[ae x]at h;omega
     .
      rw[tL J hk]at j;have Q:=af j;clear J j B;obtain⟨y,hy⟩:=a0r V;subst hy;have a7:¬ (y:Int)=256:=hk;by_cases X:y<256
      .
       have a5:(y:Int)<256:=(by omega);have hu:IntKind.u8.wrap (y:Int)=(y:Int):=Ab (by omega) (by omega);have G:Hid ((if m+1<=300 then iP (ak s) (8*s.size) L D P (R++[gt (y:Int)])else none)=d):=by
        show _=d;rw[←ae Q];have e1:oneG (ak s) (8*s.size) D (y:Int) P=some (((y:Int),0,0),P):=by unfold oneG;rw[a0d a5]
        rw[e1];simp only[a0f];rw[mb R y X,ae x]
        split<;>rfl
       clear hk X V Q;go_wp2_with fail;apply i.mono;rintro e x3⟨r,rfl,u⟩;have o:RF x3 b s P false:=by have:=eO u;rwa[a0m (by have:=ae l;omega)]at this
       have c:=af (g.keep1 r o);obtain⟨c3,f3⟩:=o.bad;have J3:=af (a0b (I.1.keep1 r (a0j _)) (I.2.1.keep1 r (a0j _)));have aa:=af (c.2.1.own x);have a3:b+1<=x3.heap.size:=c.lt;have bd:Hid (m+1<=maxLen/\(m+1)*1<=140737488355328):=by show _/\_;unfold maxLen;omega
       clear r u o i g c2 f2;go_wp2_with (at_builtin;refine a0w _ rfl _ _ 22 rfl (b+1) 5 i0 (.int .u8 0) 1 1 a01 hi bn bs b0 rfl (by decide) (.slice va m vc) _ _ rfl (a0o aa _) ⟨x3.heap.size,0,none⟩ 1 1 [.int .u8 (y:Int)] rfl rfl (cK _ _ rfl _ _) (one_byte _) bd.1 bd.2 (ar a3 _) ?_;intro v' x6 O C bb;clear bb);have K:eo (b+1) x3 x6:=jA C aa (a0a _) a3 (eo.refl _ _);have a2:bC x6 (b+1) v' (R++[gt (y:Int)]):=f9 x (by rw[kw (by omega) (by omega)];exact O);have U:=c.belU K a2;have bl:(R++[gt (y:Int)]).length=m+1:=by rw[a0i,ae x];rfl
       have HI:Hid (TmI b s L D g1 g2 p d w v' x6):=by
        refine⟨P,_,false,U,J3.1.belU K,J3.2.belU K,fun _=>by omega,fun _=>⟨l.1,by have:=ae l;have:=ae Hq;omega⟩,fun _ h=>?_,fun h=>?_⟩
        . have:=ae G;rwa[a0d (by omega)]at this
        .
         have:=ae G;rcases h with h|h
         . cases h
         . rw[a0e (by omega)]at this;exact this.symm
       have S:=af U.2.2.far;clear O C K a2 U c aa J3 bl;go_wp2_with fail;go_roundw
       case rel=>exact HI
       case measure=>
        rw[ae S,ae HF];have:=ae l;have:=ae Hq;simp only[a07,a08];omega
      .
       obtain⟨kk,ey⟩:∃kk:Nat,(y:Int)=(kk:Int)+257:=⟨y-257,by omega⟩;rw[ey]at i Q a6 a7;have b3:(kk:Int)<=43:=(by omega);have G:=af (QY.symm.trans Q);clear hk X V Q ey a6;go_wp2_with fail;apply i.mono;rintro e x3⟨r,rfl,u⟩;have o:RF x3 b s P false:=by have:=eO u;rwa[a0m (by have:=ae l;omega)]at this
       have c:=af (g.keep1 r o);obtain⟨c3,f3⟩:=o.bad;have J3:=af (a0b (I.1.keep1 r (a0j _)) (I.2.1.keep1 r (a0j _)));have a1:=ae HW x3 (ae c).1;have ab:=af (JV b P m vc kk nD z nD va ad (some ⟨g2,0,none⟩) s R D x3 x c.2.1 u l.1 t.1 a9 (by omega) t.2.2.2.2.1 t.2.2.1 (fun W h=>(a1.2.keep1 h (a0j _)).1) (fun W h=>(J3.2.keep1 h (a0j _)).1));clear r u o i g c2 f2 a1;go_wp2_with fail;apply ab.mono;rintro e x4⟨k4,v4,T4,q4,f4,rfl,o4,r4,e4⟩;have a0:MS w b s x4 v4 T4 q4 f4:=⟨c.1.trans k4,o4,r4⟩;have HI:Hid (TmI b s L D g1 g2 p d w v4 x4):=by
        have M:=ae G;rw[e4]at M;refine⟨q4,T4,f4,a0,J3.1.ku k4 (a0j _),J3.2.ku k4 (a0j _),fun h=>?_,fun h=>?_,fun h h2=>?_,fun h=>?_⟩
        . rw[h]at e4;have:=TE e4;rw[ae x]at this;omega
        . rw[h]at e4;have:=Tj e4;have:=ae l;have:=ae Hq;omega
        . rw[h]at M;simp only[a07,a08,a0f]at M;rwa[a0d h2]at M
        .
         cases f4
         .
          rcases h with h|h
          . cases h
          . simp only[a07,a08,a0f]at M;rw[a0e (by omega)]at M;exact M.symm
         . exact M.symm
       have S:Hid (sJ b (8*s.size) x4<sJ b (8*s.size) wr):=by
        show _<_;rw[r4.far,ae HF];have:=ae l;have:=ae Hq;cases f4
        . have:=Tj e4;simp only[a07,a08];omega
        . simp only[a0Y,a07,a08];omega
       clear k4 o4 r4 e4 a0 c J3 ab c3 f3;go_wp2_with fail;go_roundw
       case rel=>exact HI
       case measure=>exact S
   .
    have ba:¬ (m:Int)<=300:=(by omega);have Hn:Hid (d=none):=I.2.2.2.2 (.inr (by rw[ae x];omega));go_wp2;go_ret;exact(g.setBad).end (MR.bad (fun _=>ae Hn))
  . have Hn:Hid (d=none):=I.2.2.2.2 (.inl rfl);go_wp2;go_ret;exact(g.setBad).end (MR.bad (fun _=>ae Hn))
def FC(b p n cap nL j nD i:Nat)(a al ad:Option Addr)(s:ByteArray)(T:List UInt8)(L D:List Int)(d:Option (List UInt8×Nat))(w:World)(E:T.length=n)(G:bC w (b+1) (.slice a n cap) T)(r:Rdr w b s p)(K:p<=8*s.size)(B:300<n)(q:n<=100000)
  (A:L.length=nL) (z:D.length=nD) (okL:ap L=true) (okD:ap D=true) (jL:de w (b+1) al L) (jD:de w (b+1) ad D) :
  Calls prog 229 #[.pointer b,.slice a n cap,.slice al nL j,.slice ad nD i] w (MP w b p s T d):=by
 have k:=r.lt;have l:RF w b s p false:=by have:=eO r;rwa[a0m (by omega)]at this
 have lL:=cG okL;have lD:=cG okD;have f:Hid (MS w b s w (.slice a n cap) T p false):=⟨KU.refl _ _,G,l⟩;have t:=af (eU al j nL L w A jL.1 (by omega));have u:=af (fun W (I:Below w.heap.size w W)=>eU ad i nD D W z (jD.later I).1 (by omega));have H:=af (a0b E B);have J:¬ (n:Int)<=300:=by omega
 have F:(n:Int)<=100000:=by omega
 clear E G r K B q A z okL okD jL jD l;go_enter func229,ntmps229;go_wp2_with fail;apply t.mono;rintro e x1⟨rfl,o1,x⟩;have c:=af x;clear o1 x t;go_wp2_with fail;apply(u x1 (ae c)).mono;rintro e x2⟨rfl,o2,y⟩;have m:Below w.heap.size w x2:=c.trans (y.mono c.size);have g:MS w b s x2 (.slice a n cap) T p false:=⟨f.1.later m k,f.2.1.later m (a0a _),f.2.2.kept (m.mono k)⟩;have o:=af g;obtain⟨c2,f2⟩:=g.2.2.bad;have C:=g.lt;clear o2 y u m g f c;go_wp2_with fail
 go_loopw [1,11] (fun v _ wr=>v = .slice a n cap/\wr=x2) (fun _ _ _=>0)
 case atStart=>exact⟨rfl,rfl⟩
 case round=>
  obtain⟨rfl,rfl⟩:=hrel;go_wp2;go_ret;exact(o.setBad).end (MR.bad (fun h=>by have:=ae H;omega))
structure KI (b B:Nat) (w w':World):Prop where
 below:Below b w w'
 keep:∀j,j<B->j≠b->j<w.heap.size->w'.heap[j]?=w.heap[j]?
def KI.refl(b B:Nat)(w:World):KI b B w w:=⟨a0c _ _,fun _ _ _ _=>rfl⟩
def KI.trans(h:KI b B w w1)(k:KI b B w1 w2):KI b B w w2:=⟨h.1.trans k.1,fun j a h2 c=>(k.2 j a h2 (a0h c h.1.size)).trans (h.2 j a h2 c)⟩
def aw.ki(h:aw b w w')(B:Nat):KI b B w w':=⟨h.1,fun j _ a c=>h.2 j c a⟩
def NS(w:World)(b B:Nat)(s:ByteArray)(x:World)(v:Value)(A:List Int)(q:Nat)(f:Bool):Prop:=KI b B w x/\an x B v A/\RF x b s q f/\B<=x.heap.size
def NS.keep1{f':Bool}(h:NS w b B s x v A q f)(hb:b<B)(a:aw b x x')(c:RF x' b s q' f'):NS w b B s x' v A q' f':=⟨h.1.trans (a.ki B),h.2.1.keep1' a hb,c,a0E h.2.2.2 a.1.size⟩
def NS.setBad(h:NS w b B s x v A q f)(hb:b<B):NS w b B s (x.setCell ⟨b,2,none⟩ (.bool true)) v A q true:=h.keep1 hb (bT _ _ _ _) h.2.2.1.setBad
def NS.grown{A':List Int}{o:Obj}(h:NS w b B s x v A q f)(hb:b<B)(d:(x.alloc o).grownBy x' v.ownBlock)(m:an x' B v' A'):NS w b B s x' v' A' q f:=by
 have g:∀j,j<B->some j≠v.ownBlock:=fun j p e=>by
  have:=(a0z h.2.1 j e.symm).1;omega
 have l:∀j,j<B->j<x.heap.size->x'.heap[j]?=x.heap[j]?:=fun j c h2=>(d.block j (by simp;omega) (g j c)).trans (a1k x o j h2);have n:x.heap.size<=x'.heap.size:=by have:=d.size;simp at this;omega
 have a:Below (b+1) x x':=((a0c _ x).alloc (by have:=h.2.2.2;omega) o).grown d (by have:=h.2.2.2;simp;omega) (fun k e=>by have:=(a0z h.2.1 k e).1;omega);exact⟨h.1.trans ⟨a.mono (a06 _),fun j c _ i=>l j c i⟩,m,h.2.2.1.kept a,a0E h.2.2.2 n⟩
def MnP(w:World)(b B q:Nat)(s:ByteArray)(A:List Int)(k:Int)(f:Bool)(e:Ending)(w':World):Prop:=
 ∃v A' q' f',e = .returned v/\NS w b B s w' v A' q' f'/\(f=true->f'=true)/\(f=false->er (ak s) (8*s.size) A k q=if f'=true then none else some (A',q'))
def Ev(b B q n cap:Nat)(a:Option Addr)(s:ByteArray)(A:List Int)(k:Int)(f:Bool)(w:World)(hn:A.length=n)(al:n<=600)(h:NS w b B s w (.slice a n cap) A q f)(hb:b<B)(hf:f=false->q<=8*s.size)(hs:s.size<=2000) :
  Calls prog 261 #[.pointer b,.slice a n cap,k] w (MnP w b B q s A k f):=by
 obtain⟨i0,hi,W,X,Y⟩:=a0p Tryz.infoInt;have u:=af h;have x:=af (a0b hn (a0b al (a0b hb hs)));have HF:=af hf;have a5:(n:Int)<=600:=by omega
 obtain⟨c0,f0⟩:=h.2.2.1.bad;clear h hn al hb hf hs;go_enter func261,ntmps261;by_cases O:k=16
 .
  subst O;by_cases h0:n=0
  .
   have ad:(n:Int)=0:=(by omega);have hz:Hid (er (ak s) (8*s.size) A 16 q=none):=by show _=_;unfold er;rw[a0d rfl,a0d (by rw[x.1];exact h0)]
   have Z:=af (u.setBad x.2.2.1);clear h0;go_wp2_with fail;generalize w.setCell ⟨b,2,none⟩ (.bool true)=XW at *;have c4:=Z.2.2.1.bad.1
   go_loopw [1,9] (fun v i wr=>v = .slice a n cap/\i = .int .i64 0/\wr=XW) (fun _ _ _=>0)
   case atStart=>exact⟨by first|rfl|(rw[ad])|simp[ad],rfl,rfl⟩
   case round=>
    obtain⟨rfl,rfl,rfl⟩:=hrel;go_wp2;go_ret;exact⟨_,_,_,true,rfl,Z,fun _=>rfl,fun _=>ae hz⟩
  .
   obtain⟨g,rfl⟩:=u.2.1.somes (by rw[x.1];omega);obtain⟨m1,hm1⟩:∃m,n-1=m:=⟨_,rfl⟩;have a4:(n:Int)-1=(m1:Int):=(by omega);have a2:(m1:Int)<(n:Int):=(by omega);have a0:Hid (A.getD (A.length-1) 0=A.getD m1 0):=by show _=_;rw[x.1,hm1]
   have cL:=(u.2.1.at x.1 (show m1<n by omega)).1;have Hz:Hid (¬ A.length=0):=by show ¬ _;rw[x.1];exact h0
   clear h0 hm1;generalize A.getD m1 0=L at *;have P:=af (jR b q 2 f s w u.2.2.1 HF (by have:=ae x;omega) (by omega));obtain⟨y,hy⟩:∃y,ak s/2 ^ q%2 ^ 2=y:=⟨_,rfl⟩;have ao:(y:Int)<=3:=(by omega);obtain⟨CN,hCN⟩:∃c,3+y=c:=⟨_,rfl⟩;obtain⟨F,I⟩:∃F,(f || decide (8*s.size<q+2))=F:=⟨_,rfl⟩;have R:Hid ((f=true->F=true)/\(f=false->er (ak s) (8*s.size) A 16 q=if F=true then none else some (A++List.replicate CN L,q+2))):=by
    refine⟨fun h=>by rw[←I,h];rfl,fun h=>?_⟩;rw[←I,h,a2q];unfold er;rw[a0d rfl,a0e (ae Hz),ae a0];by_cases J:q+2<=8*s.size
    . rw[dn J,a0m (by omega),hy];simp only[a0f];rw[hCN];rfl
    . rw[fS J,a0B (by omega)];rfl
   have eC:(3:Int)+(y:Int)=(CN:Int):=(by omega);rw[I,hy]at P;clear hy I hCN;go_wp2_with fail;apply P.mono;rintro e XW⟨rfl,r1,k1⟩;have t:=af (u.keep1 x.2.2.1 k1 r1);generalize hQ:q+2=Q at *;clear k1 r1 P u c0 f0 hQ;go_wp2_with fail;have c4:=t.2.2.1.bad.1
   go_loopw [1,9] (fun v i wr=>∃j:Nat,j<=CN/\i = .int .i64 j/\(F=true->j=0)/\NS w b B s wr v (A++List.replicate j L) Q F) (fun _ i _=>CN-(intOf i).toNat)
   case atStart=>exact⟨0,a0g _,rfl,fun _=>rfl,by rw[a3l,a05];exact t⟩
   case round=>
    obtain⟨j,hj,rfl,D,o⟩:=hrel;clear t c4;obtain⟨m,hm⟩:∃m,(A++List.replicate j L).length=m:=⟨_,rfl⟩;have ab:m<=900:=by rw[←hm,a0i,a0y,x.1];have:=x.2.1;omega
    obtain⟨va,vc,rfl⟩:=o.2.1.formN hm;obtain⟨c5,f5⟩:=o.2.2.1.bad;have S:=af hm;have l:=af o;have aa:=af D;clear o hm D;have p:Hid ((F=true∨¬ j<CN)->MnP w b B q s A 16 f (.returned (.slice va m vc)) wr):=by
     intro J;refine⟨_,_,Q,F,rfl,l,R.1,fun M=>?_⟩;rw[R.2 M];cases I:F
     .
      have:j=CN:=by
       rcases J with h|h
       . rw[I]at h;cases h
       . omega
      rw[this]
     . rfl
    by_cases E:j<CN
    .
     have G:(j:Int)<(CN:Int):=(by omega);cases F
     .
      have N:=af (l.2.1.own S);have K:B<=wr.heap.size:=l.2.2.2;have T:Hid (m+1<=maxLen/\(m+1)*8<=140737488355328):=by show _/\_;unfold maxLen;omega
      go_wp2_with (at_builtin;refine a0w _ rfl _ _ 129 rfl B 3 i0 (.int .i64 0) 1 8 a0F hi W X Y rfl (by decide) (.slice va m vc) _ _ rfl (a0o N _) ⟨wr.heap.size,0,none⟩ 1 1 [.int .i64 L] rfl rfl (cK _ _ rfl _ _) (fD _) T.1 T.2 (ar K _) ?_;intro v' x6 r d H;clear H);have C:an x6 B v' (A++List.replicate (j+1) L):=by
       have:=dN S r;rw[a0I,←a3f]at this;exact this
      have z:=af (l.grown x.2.2.1 d C);clear r d C;go_wp2_with fail;go_roundw
      case rel=>first|exact⟨j+1,by omega,by go_num,nofun,z⟩|exact⟨j+1,by omega,by go_num,z⟩
      case measure=>simp[intOf];omega
     . go_wp2;go_ret;exact p (a0J (by simp))
    .
     have G:¬ (j:Int)<(CN:Int):=(by omega);go_wp2;go_ret;exact p (.inr E)
 .
  have ac:¬ k=16:=O;by_cases U:k=17
  .
   subst U;clear O ac;have P:=af (jR b q 3 f s w u.2.2.1 HF (by have:=ae x;omega) (by omega));obtain⟨y,hy⟩:∃y,ak s/2 ^ q%2 ^ 3=y:=⟨_,rfl⟩;have ao:(y:Int)<=7:=(by omega);obtain⟨CN,hCN⟩:∃c,3+y=c:=⟨_,rfl⟩;obtain⟨F,I⟩:∃F,(f || decide (8*s.size<q+3))=F:=⟨_,rfl⟩;have R:Hid ((f=true->F=true)/\(f=false->er (ak s) (8*s.size) A 17 q=if F=true then none else some (A++List.replicate CN 0,q+3))):=by
    refine⟨fun h=>by rw[←I,h];rfl,fun h=>?_⟩;rw[←I,h,a2q];unfold er;rw[a0e (by decide),a0d rfl];by_cases J:q+3<=8*s.size
    . rw[dn J,a0m (by omega),hy];simp only[a0f];rw[hCN];rfl
    . rw[fS J,a0B (by omega)];rfl
   have eC:(3:Int)+(y:Int)=(CN:Int):=(by omega);rw[I,hy]at P;clear hy I hCN;go_wp2_with fail;apply P.mono;rintro e XW⟨rfl,r1,k1⟩;have t:=af (u.keep1 x.2.2.1 k1 r1);generalize hQ:q+3=Q at *;clear k1 r1 P u c0 f0 hQ;go_wp2_with fail;have c4:=t.2.2.1.bad.1
   go_loopw [1,9] (fun v i wr=>∃j:Nat,j<=CN/\i = .int .i64 j/\(F=true->j=0)/\NS w b B s wr v (A++List.replicate j 0) Q F) (fun _ i _=>CN-(intOf i).toNat)
   case atStart=>exact⟨0,a0g _,rfl,fun _=>rfl,by rw[a3l,a05];exact t⟩
   case round=>
    obtain⟨j,hj,rfl,D,o⟩:=hrel;clear t c4;obtain⟨m,hm⟩:∃m,(A++List.replicate j 0).length=m:=⟨_,rfl⟩;have ab:m<=900:=by rw[←hm,a0i,a0y,x.1];have:=x.2.1;omega
    obtain⟨va,vc,rfl⟩:=o.2.1.formN hm;obtain⟨c5,f5⟩:=o.2.2.1.bad;have S:=af hm;have l:=af o;have aa:=af D;clear o hm D;have p:Hid ((F=true∨¬ j<CN)->MnP w b B q s A 17 f (.returned (.slice va m vc)) wr):=by
     intro J;refine⟨_,_,Q,F,rfl,l,R.1,fun M=>?_⟩;rw[R.2 M];cases I:F
     .
      have:j=CN:=by
       rcases J with h|h
       . rw[I]at h;cases h
       . omega
      rw[this]
     . rfl
    by_cases E:j<CN
    .
     have G:(j:Int)<(CN:Int):=(by omega);cases F
     .
      have N:=af (l.2.1.own S);have K:B<=wr.heap.size:=l.2.2.2;have T:Hid (m+1<=maxLen/\(m+1)*8<=140737488355328):=by show _/\_;unfold maxLen;omega
      go_wp2_with (at_builtin;refine a0w _ rfl _ _ 129 rfl B 3 i0 (.int .i64 0) 1 8 a0F hi W X Y rfl (by decide) (.slice va m vc) _ _ rfl (a0o N _) ⟨wr.heap.size,0,none⟩ 1 1 [.int .i64 0] rfl rfl (cK _ _ rfl _ _) (fD _) T.1 T.2 (ar K _) ?_;intro v' x6 r d H;clear H);have C:an x6 B v' (A++List.replicate (j+1) 0):=by
       have:=dN S r;rw[a0I,←a3f]at this;exact this
      have z:=af (l.grown x.2.2.1 d C);clear r d C;go_wp2_with fail;go_roundw
      case rel=>first|exact⟨j+1,by omega,by go_num,nofun,z⟩|exact⟨j+1,by omega,by go_num,z⟩
      case measure=>simp[intOf];omega
     . go_wp2;go_ret;exact p (a0J (by simp))
    .
     have G:¬ (j:Int)<(CN:Int):=(by omega);go_wp2;go_ret;exact p (.inr E)
  .
   have a1:¬ k=17:=U;by_cases V:k=18
   .
    subst V;clear O U ac a1;have P:=af (jR b q 7 f s w u.2.2.1 HF (by have:=ae x;omega) (by omega));obtain⟨y,hy⟩:∃y,ak s/2 ^ q%2 ^ 7=y:=⟨_,rfl⟩;have ao:(y:Int)<=127:=(by omega);obtain⟨CN,hCN⟩:∃c,11+y=c:=⟨_,rfl⟩;obtain⟨F,I⟩:∃F,(f || decide (8*s.size<q+7))=F:=⟨_,rfl⟩;have R:Hid ((f=true->F=true)/\(f=false->er (ak s) (8*s.size) A 18 q=if F=true then none else some (A++List.replicate CN 0,q+7))):=by
     refine⟨fun h=>by rw[←I,h];rfl,fun h=>?_⟩;rw[←I,h,a2q];unfold er;rw[a0e (by decide),a0e (by decide),a0d rfl];by_cases J:q+7<=8*s.size
     . rw[dn J,a0m (by omega),hy];simp only[a0f];rw[hCN];rfl
     . rw[fS J,a0B (by omega)];rfl
    have eC:(11:Int)+(y:Int)=(CN:Int):=(by omega);rw[I,hy]at P;clear hy I hCN;go_wp2_with fail;apply P.mono;rintro e XW⟨rfl,r1,k1⟩;have t:=af (u.keep1 x.2.2.1 k1 r1);generalize hQ:q+7=Q at *;clear k1 r1 P u c0 f0 hQ;go_wp2_with fail;have c4:=t.2.2.1.bad.1
    go_loopw [1,9] (fun v i wr=>∃j:Nat,j<=CN/\i = .int .i64 j/\(F=true->j=0)/\NS w b B s wr v (A++List.replicate j 0) Q F) (fun _ i _=>CN-(intOf i).toNat)
    case atStart=>exact⟨0,a0g _,rfl,fun _=>rfl,by rw[a3l,a05];exact t⟩
    case round=>
     obtain⟨j,hj,rfl,D,o⟩:=hrel;clear t c4;obtain⟨m,hm⟩:∃m,(A++List.replicate j 0).length=m:=⟨_,rfl⟩;have ab:m<=900:=by rw[←hm,a0i,a0y,x.1];have:=x.2.1;omega
     obtain⟨va,vc,rfl⟩:=o.2.1.formN hm;obtain⟨c5,f5⟩:=o.2.2.1.bad;have S:=af hm;have l:=af o;have aa:=af D;clear o hm D;have p:Hid ((F=true∨¬ j<CN)->MnP w b B q s A 18 f (.returned (.slice va m vc)) wr):=by
      intro J;refine⟨_,_,Q,F,rfl,l,R.1,fun M=>?_⟩;rw[R.2 M];cases I:F
      .
       have:j=CN:=by
        rcases J with h|h
        . rw[I]at h;cases h
        . omega
       rw[this]
      . rfl
     by_cases E:j<CN
     .
      have G:(j:Int)<(CN:Int):=(by omega);cases F
      .
       have N:=af (l.2.1.own S);have K:B<=wr.heap.size:=l.2.2.2;have T:Hid (m+1<=maxLen/\(m+1)*8<=140737488355328):=by show _/\_;unfold maxLen;omega
       go_wp2_with (at_builtin;refine a0w _ rfl _ _ 129 rfl B 3 i0 (.int .i64 0) 1 8 a0F hi W X Y rfl (by decide) (.slice va m vc) _ _ rfl (a0o N _) ⟨wr.heap.size,0,none⟩ 1 1 [.int .i64 0] rfl rfl (cK _ _ rfl _ _) (fD _) T.1 T.2 (ar K _) ?_;intro v' x6 r d H;clear H);have C:an x6 B v' (A++List.replicate (j+1) 0):=by
        have:=dN S r;rw[a0I,←a3f]at this;exact this
       have z:=af (l.grown x.2.2.1 d C);clear r d C;go_wp2_with fail;go_roundw
       case rel=>first|exact⟨j+1,by omega,by go_num,nofun,z⟩|exact⟨j+1,by omega,by go_num,z⟩
       case measure=>simp[intOf];omega
      . go_wp2;go_ret;exact p (a0J (by simp))
     .
      have G:¬ (j:Int)<(CN:Int):=(by omega);go_wp2;go_ret;exact p (.inr E)
   .
    have a3:¬ k=18:=V;have t:=u;have R:Hid ((f=true->f=true)/\(f=false->er (ak s) (8*s.size) A k q=if f=true then none else some (A++List.replicate 1 k,q))):=by
     refine⟨id,fun h=>?_⟩;rw[h];unfold er;rw[a0e O,a0e U,a0e V];rfl
    clear u c0 f0 O U V;go_wp2_with fail;have c4:=t.2.2.1.bad.1
    go_loopw [1,9] (fun v i wr=>∃j:Nat,j<=1/\i = .int .i64 j/\(f=true->j=0)/\NS w b B s wr v (A++List.replicate j k) q f) (fun _ i _=>1-(intOf i).toNat)
    case atStart=>exact⟨0,a0g _,rfl,fun _=>rfl,by rw[a3l,a05];exact t⟩
    case round=>
     obtain⟨j,hj,rfl,D,o⟩:=hrel;clear t c4;obtain⟨m,hm⟩:∃m,(A++List.replicate j k).length=m:=⟨_,rfl⟩;have ab:m<=900:=by rw[←hm,a0i,a0y,x.1];have:=x.2.1;omega
     obtain⟨va,vc,rfl⟩:=o.2.1.formN hm;obtain⟨c5,f5⟩:=o.2.2.1.bad;have S:=af hm;have l:=af o;have aa:=af D;clear o hm D;have p:Hid ((f=true∨¬ j<1)->MnP w b B q s A k f (.returned (.slice va m vc)) wr):=by
      intro J;refine⟨_,_,q,f,rfl,l,R.1,fun M=>?_⟩;rw[R.2 M];cases I:f
      .
       have:j=1:=by
        rcases J with h|h
        . rw[I]at h;cases h
        . omega
       rw[this]
      . rfl
     by_cases E:j<1
     .
      have G:(j:Int)<(1:Int):=(by omega);cases f
      .
       have N:=af (l.2.1.own S);have K:B<=wr.heap.size:=l.2.2.2;have T:Hid (m+1<=maxLen/\(m+1)*8<=140737488355328):=by show _/\_;unfold maxLen;omega
       go_wp2_with (at_builtin;refine a0w _ rfl _ _ 129 rfl B 3 i0 (.int .i64 0) 1 8 a0F hi W X Y rfl (by decide) (.slice va m vc) _ _ rfl (a0o N _) ⟨wr.heap.size,0,none⟩ 1 1 [.int .i64 k] rfl rfl (cK _ _ rfl _ _) (fD _) T.1 T.2 (ar K _) ?_;intro v' x6 r d H;clear H);have C:an x6 B v' (A++List.replicate (j+1) k):=by
        have:=dN S r;rw[a0I,←a3f]at this;exact this
       have z:=af (l.grown x.2.2.1 d C);clear r d C;go_wp2_with fail;go_roundw
       case rel=>first|exact⟨j+1,by omega,by go_num,nofun,z⟩|exact⟨j+1,by omega,by go_num,z⟩
       case measure=>simp[intOf];omega
      . go_wp2;go_ret;exact p (a0J (by simp))
     .
      have G:¬ (j:Int)<(1:Int):=(by omega);go_wp2;go_ret;exact p (.inr E)
def lbV(V:Nat):List Nat->Nat->List Int->List Int
 | [],_,l=>l
 | i :: is,p,l=>lbV V is (p+3) (l.set i ((V/2 ^ p%2 ^ 3:Nat):Int))
def Sf(V:Nat):∀(is:List Nat) (p:Nat) (l:List Int),(lbV V is p l).length=l.length:=by
 intro is;induction is with
 | nil=>intro p l;rfl
 | cons i is ih=>intro p l;simp only[lbV];rw[ih,a00]
def UP: ∀(is:List Nat) (p:Nat) (l:List Int),p<=sz->lbG V sz is p l=if p+3*is.length<=sz then some (lbV V is p l,p+3*is.length)else none:=by
 intro is;induction is with
 | nil=>intro p l h;simp[lbG,lbV,h]
 | cons i is ih=>
  intro p l h;simp only[lbG,lbV,a0C];by_cases a:p+3<=sz
  . rw[dn a];simp only[a0f];rw[ih _ _ a,show p+3+3*is.length=p+3*(is.length+1) by omega]
  . rw[fS a,a0e (by omega)];rfl
def iS(V sz p:Nat):Option (Nat×List Int×Nat):=
 (rdN V sz p 5).bind fun a=>(rdN V sz a.2 5).bind fun c=>if a.1+257<=286/\c.1+1<=30 then
  (rdN V sz c.2 4).bind fun m=>(kN V sz (m.1+4) m.2).bind fun B=>(lnG V sz B.1 (a.1+257+(c.1+1)) B.2 []).bind fun A=>
   if ap (A.1.take (a.1+257))=true/\ap (A.1.drop (a.1+257))=true then some (a.1+257,A.1,A.2)else none
  else none
def zE: xC V sz p T=(iS V sz p).bind fun x=>iP V sz (x.2.1.take x.1) (x.2.1.drop x.1) x.2.2 T:=by
 unfold xC iS;rcases rdN V sz p 5 with _|⟨a,d⟩
 . rfl
 simp only[a0f];rcases rdN V sz d 5 with _|⟨c,e⟩
 . rfl
 simp only[a0f]
 split
 .
  rcases rdN V sz e 4 with _|⟨m,f⟩
  . rfl
  simp only[a0f];rcases kN V sz (m+4) f with _|⟨B,g⟩
  . rfl
  simp only[a0f];rcases lnG V sz B (a+257+(c+1)) g []with _|⟨A,i⟩
  . rfl
  simp only[a0f];unfold vI;by_cases b:ap (A.take (a+257))=true
  .
   by_cases h2:ap (A.drop (a+257))=true
   . rw[a0d b,a0d h2,a0d ⟨b,h2⟩];rfl
   . rw[a0d b,a0e h2,a0e (fun h=>h2 h.2)];rfl
  . rw[a0e b,a0e (fun h=>b h.1)];rfl
 . rfl
def OM(h:iS V sz p=some (n,A,q)):q<=sz/\p<=q/\ap (A.take n)=true/\ap (A.drop n)=true:=by
 unfold iS at h;rcases b:rdN V sz p 5 with _|⟨a,k⟩
 . rw[b]at h;cases h
 rw[b]at h;simp only[a0f]at h;rcases h2:rdN V sz k 5 with _|⟨c,l⟩
 . rw[h2]at h;cases h
 rw[h2]at h;simp only[a0f]at h
 split at h
 .
  rcases d:rdN V sz l 4 with _|⟨m,o⟩
  . rw[d]at h;cases h
  rw[d]at h;simp only[a0f]at h;rcases e:kN V sz (m+4) o with _|⟨B,r⟩
  . rw[e]at h;cases h
  rw[e]at h;simp only[a0f]at h;rcases f:lnG V sz B (a+257+(c+1)) r []with _|⟨A5,u⟩
  . rw[f]at h;cases h
  rw[f]at h;simp only[a0f]at h;have s:=bV b;have t:=bV h2;have g:=bV d;have i:=tf e g.1;have j:=Hw f i.1
  split at h
  . rename_i hk;simp only[a0l,a0R]at h;obtain⟨rfl,rfl,rfl⟩:=h;exact⟨j.1,by omega,hk.1,hk.2⟩
  . cases h
 . cases h
def Eh{X1 X2 X3:Nat}(g:p<=sz)(d:V/2 ^ p%2 ^ 5=X1)(h2:V/2 ^ (p+5)%2 ^ 5=X2)(e:V/2 ^ (p+5+5)%2 ^ 4=X3)(f:lbV V (bK.take (X3+4)) (p+5+5+4) (List.replicate 19 0)=l) :
  iS V sz p=if p+5+5+4+3*(X3+4)<=sz/\ap l=true/\X1+257<=286/\X2+1<=30 then(lnG V sz l (X1+257+(X2+1)) (p+5+5+4+3*(X3+4)) []).bind fun A=>
   if ap (A.1.take (X1+257))=true/\ap (A.1.drop (X1+257))=true then some (X1+257,A.1,A.2)else none else none:=by
 have a:(bK.take (X3+4)).length=X3+4:=by rw[a0u];have:bK.length=19:=rfl;omega
 unfold iS;by_cases c1:p+5<=sz
 .
  rw[dn c1];simp only[a0f];rw[d];by_cases c2:p+5+5<=sz
  .
   rw[dn c2];simp only[a0f];rw[h2];by_cases c:X1+257<=286/\X2+1<=30
   .
    rw[a0d c];by_cases c3:p+5+5+4<=sz
    .
     rw[dn c3];simp only[a0f];rw[e];unfold kN;rw[UP _ _ _ c3,a,f];by_cases c4:p+5+5+4+3*(X3+4)<=sz
     .
      rw[a0d c4];simp only[a0f];by_cases b:ap l=true
      . rw[a0d b,a0d ⟨c4,b,c⟩];rfl
      . rw[a0e b,a0e (fun h=>b h.2.1)];rfl
     . rw[a0e c4,a0e (fun h=>c4 h.1)];rfl
    . rw[fS c3,a0e (by omega)];rfl
   . rw[a0e c,a0e (fun h=>c h.2.2)]
  . rw[fS c2,a0e (by omega)];rfl
 . rw[fS c1,a0e (by omega)];rfl
def LmP(w:World)(b p:Nat)(s:ByteArray)(e:Ending)(w':World):Prop:=
 KI b w.heap.size w w'/\∃va vb q f,e = .returned (.tuple #[va,vb])/\RF w' b s q f/\(f=true->iS (ak s) (8*s.size) p=none) /\
  (f=false->∃n m A al cl ad cd,va = .slice al n cl/\vb = .slice ad m cd/\iS (ak s) (8*s.size) p=some (n,A,q)/\A.length=n+m/\de w' (b+1) al (A.take n)/\de w' (b+1) ad (A.drop n))
def LmI(b gL many P:Nat)(s:ByteArray)(lf:List Int)(w:World)(i:Value)(wr:World):Prop:=
 ∃(k:Nat) (l:List Int),i = .int .i64 k/\k<=many/\aw b w wr/\Rdr wr b s (P+3*k)/\an wr gL (.slice gL 19 19) l/\l.length=19/\lbV (ak s) ((bK.take many).drop k) (P+3*k) l=lf/\gL<wr.heap.size
def LaI(b B N:Nat)(s:ByteArray)(l:List Int)(d:Option (List Int×Nat))(w:World)(v:Value)(x:World):Prop:=
 ∃(A:List Int) (q:Nat) (f:Bool),NS w b B s x v A q f/\(f=false->A.length<=500/\q<=8*s.size/\lnG (ak s) (8*s.size) l N q A=d)/\(f=true->d=none)
def KI.ku(h:KI b w.heap.size w x):KU b w x:=⟨h.1,fun j c a _=>h.2 j c a c⟩
def KI.grow{y:World}(h:KI b B w x)(hb:Below x.heap.size x y)(d:b<=x.heap.size):KI b B w y:=⟨h.1.trans (hb.mono d),fun j c h2 a=>(hb.block j (a0h a h.1.size)).trans (h.2 j c h2 a)⟩
def KI.less{a:Nat}(h:KI b B w x)(e:a<=B):KI b a w x:=⟨h.1,fun j c h2 d=>h.2 j (a0h c e) h2 d⟩
def de.ki{base:Nat}(h:de w base a l)(d:KI b w.heap.size w x)(hb:b<base):de x base a l:=h.moved d.1.size (fun g e c _=>d.2 g c (by omega) c)
def LmP.badEnd{va vb:Value}{o1 o2:Obj}(d:KI b w.heap.size w x)(g:RF x b s q f)(e:iS (ak s) (8*s.size) p=none):LmP w b p s (.returned (.tuple #[va,vb])) (((x.setCell ⟨b,2,none⟩ (.bool true)).alloc o1).alloc o2):=by
 have a:=g.setBad;have c:Below (x.setCell ⟨b,2,none⟩ (.bool true)).heap.size (x.setCell ⟨b,2,none⟩ (.bool true)) (((x.setCell ⟨b,2,none⟩ (.bool true)).alloc o1).alloc o2):=cC.alloc (by simp) _;exact⟨(d.trans ((bT _ _ _ _).ki _)).grow c (a0s a.lt),va,vb,q,true,rfl,a.kept (c.mono a.lt),fun _=>e,nofun⟩
def El{B:List Int}(h:sz<p):lnG V sz B n p A=none:=by
 unfold lnG;rw[show sz+1-p=0 by omega];rfl
def Lj(b p:Nat)(s:ByteArray)(w:World)(hr:Rdr w b s p)(hp:p<=8*s.size)(hs:s.size<=2000) :
  Calls prog 230 #[.pointer b] w (LmP w b p s):=by
 have ca:=cE
 obtain⟨i0,hi,cc,cg,ch⟩:=a0p Tryz.infoInt;have dq:=hr.lt;obtain⟨X1,L⟩:∃X,ak s/2 ^ p%2 ^ 5=X:=⟨_,rfl⟩;obtain⟨X2,h2⟩:∃X,ak s/2 ^ (p+5)%2 ^ 5=X:=⟨_,rfl⟩;obtain⟨X3,h3⟩:∃X,ak s/2 ^ (p+5+5)%2 ^ 4=X:=⟨_,rfl⟩;obtain⟨lf,hlf⟩:∃l,lbV (ak s) (bK.take (X3+4)) (p+5+5+4) (List.replicate 19 0)=l:=⟨_,rfl⟩;have HG:=af (Eh hp L h2 h3 hlf);have N1:=af (jk b p 5 s w hr (by omega) (by omega));have N2:=af (fun W (h:Rdr W b s (p+5))=>jk b (p+5) 5 s W h (by omega) (by omega));have N3:=af (fun W (h:Rdr W b s (p+5+5))=>jk b (p+5+5) 4 s W h (by omega) (by omega));rw[L]at N1;rw[h2]at N2;rw[h3]at N3;obtain⟨NL,hNL⟩:∃n,X1+257=n:=⟨_,rfl⟩;obtain⟨NB,hNB⟩:∃n,X2+1=n:=⟨_,rfl⟩;obtain⟨many,hmany⟩:∃n,X3+4=n:=⟨_,rfl⟩;rw[hNL,hNB,hmany]at HG;rw[hmany]at hlf;have eL:(257:Int)+(X1:Int)=(NL:Int):=by omega
 have eB:(1:Int)+(X2:Int)=(NB:Int):=by omega
 have eM:(4:Int)+(X3:Int)=(many:Int):=by omega
 have bL:(NL:Int)<=288:=by omega
 have bB:(NB:Int)<=32:=by omega
 have bM:(many:Int)<=19:=by omega
 have HN:Hid (s.size<=2000/\many<=19/\b<w.heap.size/\NL<=288/\NB<=32):=⟨hs,by omega,dq,by omega,by omega⟩;generalize hP:p+5+5+4=P at *;have bl:=af hlf;clear L h2 h3 hNL hNB hmany hlf hr hp hs;go_enter func230,ntmps230;go_wp2_with fail;apply N1.mono;rintro e x1⟨rfl,r1,k1⟩;have a5:=af (a0b r1 k1);clear r1 k1 N1;go_wp2_with fail;apply(N2 x1 (ae a5).1).mono;rintro e x2⟨rfl,r2,k2⟩;have a6:=af (a0b r2 (a5.2.trans k2));clear r2 k2 N2 a5;go_wp2_with fail;apply(N3 x2 (ae a6).1).mono;rintro e x3⟨rfl,r3,k3⟩;have T:=af (a0b r3 (a6.2.trans k3));have c6:w.heap.size<=x3.heap.size:=T.2.1.size;clear r3 k3 N3 a6 hP;go_wp2_with (at_make;refine a1J _ rfl _ _ 129 rfl x3.heap.size 3 i0 (.int .i64 0) 1 a0F hi cc cg .i64 .i64 _ _ 19 rfl rfl rfl rfl (by rw[ch];omega) (by unfold maxLen;omega) (a0a _) ?_;intro w1 a3 Y);have a7:an w1 x3.heap.size (.slice x3.heap.size 19 19) (List.replicate 19 0):=dJ a3;have D:Below x3.heap.size x3 w1:=(a0c _ _).grown Y (a0a _) (fun k h=>by cases h);have a2:b<x3.heap.size:=T.1.lt;have b7:x3.heap.size<w1.heap.size:=a7.below.2;generalize ba:x3.heap.size=gL at *;have J:Hid (LmI b gL many P s lf w (.int .i64 (0:Nat)) w1):=⟨0,List.replicate 19 0,rfl,a0g _,T.2.later (by rw[ba];exact D) (by rw[ba];exact a2),T.1.kept (D.mono a2),a7,by simp,by rw[a1L];exact bl,b7⟩;clear a3 Y hi cc cg ch T a7 D bl ba b7;go_wp2_with fail
 go_loopw [8] (fun i wr=>LmI b gL many P s lf w i wr) (fun i _=>many-(intOf i).toNat)
 case atStart=>exact J
 case round=>
  obtain⟨k,l,rfl,hk,ao,hr,ho,hl,hd,bk⟩:=hrel;clear J;by_cases bd:k<many
  .
   have c9:(k:Int)<(many:Int):=(by omega);have Z:k<19:=by have:=HN.2.1;omega
   have dv:=BH k Z;rw[EI bd HN.2.1]at hd;simp only[lbV]at hd;have bn:=af (G3 wr.drew);obtain⟨y,hy⟩:∃y,ak s/2 ^ (P+3*k)%2 ^ 3=y:=⟨_,rfl⟩;have HM:=af (fun W (h:Rdr W b s (P+3*k))=>jk b (P+3*k) 3 s W h (by have:=ae HN;omega) (by omega));rw[hy]at HM hd;have r:=af (a0b ao (a0b hr (a0b ho (a0b hl bk))));have cp:=af hd;have cr:Hid (EF.getD k 0=(bK.getD k 0:Nat)):=EG k Z;have d6:=bk;clear ao hr ho hl bk hk hd hy;generalize bK.getD k 0=o at *;have d7:(o:Int)<19:=(by omega);have d4:wr.drew.heap.size=wr.heap.size:=rfl;go_wp2_with fail;refine wp_region_held_drew (S:=fun _=>True) ca trivial (fun hS=>?_);refine ag 0 (.slice gL 19 19) rfl (fun W V=>by go_simp) hS ?_;refine ag 2 (.int .i64 (k:Nat)) rfl (fun W V=>by go_simp) hS ?_;refine ag 5 (.pointer b) rfl (fun W V=>by go_simp) hS ?_;refine ah 1 fun K hK=>?_;go_simp;go_at_call 242;apply bn.mono;rintro e x4⟨rfl,o4,b4⟩;refine Shut.out hK _ _ trivial (fun _=>?_);clear hK K;have b8:wr.heap.size<x4.heap.size:=o4.below.2;have ad:Below wr.heap.size wr x4:=(a0c wr.heap.size wr).drew.trans b4;have k4:aw b wr x4:=(aw.refl b wr).later ad r.2.1.lt;obtain⟨c4,_,_,_⟩:=o4.at EH Z;rw[ae cr]at c4;have bs:Hid (∀W,aw b x4 W->W.cell? ⟨wr.heap.size,k,none⟩=some (.int .i64 (o:Nat))):=fun W h=>by
    have L:=h.2 wr.heap.size b8 (by have:=r.2.1.lt;omega);rw[World.cell?_of_block (w:=x4) L (a:=⟨wr.heap.size,k,none⟩)];exact c4
   have z:Hid (aw b w x4/\Rdr x4 b s (P+3*k)/\an x4 gL (.slice gL 19 19) l/\gL<x4.heap.size/\l.length=19):=⟨r.1.trans k4,r.2.1.kept (ad.mono r.2.1.lt),r.2.2.1.later ad (a0a _),by have:=r.2.2.2.2;omega,r.2.2.2.1⟩;clear r bn o4 b4 ad k4 b8;refine fw (S':=fun W=>W.cell? ⟨wr.heap.size,k,none⟩=some (.int .i64 (o:Nat))) (fun _ _=>trivial) _ _ _ _ ?_;have a8:x4.cell? ⟨wr.heap.size,k,none⟩=some (.int .i64 (o:Nat)):=c4;refine ag 3 (.pointer (some ⟨wr.heap.size,k,none⟩)) rfl (fun W V=>by go_simp<;>(intro h;omega)) a8 ?_;refine ag 4 (.int .i64 (o:Nat)) rfl (fun W V=>by go_simp) a8 ?_;refine ah 6 fun K hK=>?_;go_simp;go_at_call 227;apply(HM x4 (ae z).2.1).mono;rintro e x5⟨rfl,r5,k5⟩;refine Shut.out hK _ _ (bs _ k5) (fun a9=>?_);clear hK K;have ds:gL≠b:=(by omega);have o5:=z.2.2.1.keep1' k5 (by omega);obtain⟨c5,f5,_,_⟩:=o5.at z.2.2.2.2 dv;refine ag 7 (.pointer (some ⟨gL,o,none⟩)) rfl (fun W V=>by go_simp<;>(intro h;omega)) a9 ?_;refine ah 8 fun K hK=>?_;go_simp;have J:Hid (LmI b gL many P s lf w (.int .i64 (k+1:Nat)) (x5.setCell ⟨gL,o,none⟩ (.int .i64 (y:Nat)))):=by
    refine⟨k+1,l.set o (y:Nat),rfl,bd,(z.1.trans k5).set c6 HN.2.2.1 _,?_,o5.put z.2.2.2.2 _,by rw[a00];exact z.2.2.2.2,by rw[show P+3*(k+1)=P+3*k+3 by omega];exact cp,?_⟩
    . rw[show P+3*(k+1)=P+3*k+3 by omega];exact r5.set ds _
    . have:=k5.1.size;have:=z.2.2.2.1;simp;omega
   have b2:(x5.setCell ⟨gL,o,none⟩ (.int .i64 (y:Nat))).cell? ⟨wr.heap.size,k,none⟩=some (.int .i64 (o:Nat)):=by
    rw[World.cell?_setCell_other _ _ _ _ (by simp only[ne_eq,a0A];omega)];exact a9
   refine Shut.out hK _ _ b2 (fun _=>?_);clear hK K;refine wpAnyH_done (by kernel_rfl) ?_ _;clear a8 a9 b2 k5 r5 o5 bs HM z c4 c5 f5;generalize x5.setCell ⟨gL,o,none⟩ (.int .i64 (y:Nat))=x6 at *;go_wp2_with fail;go_roundw
   case rel=>exact J
   case measure=>simp[intOf];omega
  .
   have c9:¬ (k:Int)<(many:Int):=(by omega);have dd:k=many:=(by omega);subst dd;have e0:(bK.take k).drop k=[]:=a2Y (by rw[a0u];omega);rw[e0]at hd;simp only[lbV]at hd;subst hd;have Q:=af (kP (some ⟨gL,0,none⟩) 19 19 l wr hl (ho.rowN hl) (by omega));have HC:=af (eU (some ⟨gL,0,none⟩) 19 19 l wr hl (ho.rowN hl) (by omega));have JL:=af ((bX hl (ho.own hl)).mono (b':=b+1) (by omega));have r:=af (a0b ao (a0b hr hl));clear ao hr hl ho hk e0 bd;by_cases I:ap l=true/\NL<=286/\NB<=30
   .
    obtain⟨ok1,ok2,ok3⟩:=I;rw[ok1]at Q;have cs:=af ok1;obtain⟨d,hd⟩:∃d,lnG (ak s) (8*s.size) l (NL+NB) (P+3*k) []=d:=⟨_,rfl⟩;have M:Hid (iS (ak s) (8*s.size) p=d.bind fun A=>if ap (A.1.take NL)=true/\ap (A.1.drop NL)=true then some (NL,A.1,A.2)else none):=by
     show _=_;rw[ae HG,hd];by_cases hQ:P+3*k<=8*s.size
     . rw[a0d ⟨hQ,ok1,ok2,ok3⟩]
     . rw[a0e (fun h=>hQ h.1),←hd,El (by omega)];rfl
    have HD:=af hd;have b0:¬ (286:Int)<(NL:Int):=(by omega);have cv:¬ (30:Int)<(NB:Int):=(by omega);have HK:=af (a0b ok2 ok3);clear ok1 ok2 ok3 hd HG;go_wp2_with fail;apply Q.mono;rintro e x4⟨rfl,rfl⟩;clear Q;go_wp2_with fail;apply HC.mono;rintro e x5⟨rfl,o5,b5⟩;have be:(aW l 15).2.length=19:=by rw[bJ];exact r.2.2
    have aa:b<x4.heap.size:=r.2.1.lt;have J5:=af (a0b (JL.later b5) ((bX be (o5.own be)).mono (b':=b+1) aa));have K5:=af (r.1.later b5 aa);have R5:=af (eO (r.2.1.kept (b5.mono aa)));have t:b<x5.heap.size:=R5.lt;have b1:World.ownsRow (x5.alloc (.cells #[] 3)) x5.heap.size 3 1 (.slice x5.heap.size 0 0) 0 []:=a0S x5 #[] 0 (a0a _) (by unfold maxLen;omega) rfl;have al:Below x5.heap.size x5 (x5.alloc (.cells #[] 3)):=cC;have J:Hid (LaI b x5.heap.size (NL+NB) s l d x5 (.slice x5.heap.size 0 0) (x5.alloc (.cells #[] 3))):=by
     refine⟨[],P+3*k,_,⟨(KI.refl _ _ _).grow al (a0s t),b1,R5.kept (al.mono t),al.size⟩,fun h=>⟨by simp,by simpa using h,HD⟩,fun h=>?_⟩;rw[←ae HD,El (by simpa using h)]
    generalize c7:x4.heap.size=gC at *;have Hl:=af (ae r).2.2;clear o5 b5 HC JL r R5 b1 al HD be c7;go_wp2_with fail;generalize x5.alloc (.cells #[] 3)=x6 at *;obtain⟨N,hN⟩:∃N,NL+NB=N:=⟨_,rfl⟩;rw[hN]at J;have eN:(NL:Int)+(NB:Int)=(N:Int):=(by omega);have bN:(N:Int)<=316:=by have:=ae HK;omega
    go_loopw [10] (fun v wr=>LaI b x5.heap.size N s l d x5 v wr) (fun _ wr=>sJ b (8*s.size) wr)
    case atStart=>exact J
    case round=>
     obtain⟨A,q,f,u,b3,b6⟩:=hrel;clear J;obtain⟨m,hm⟩:∃m,A.length=m:=⟨_,rfl⟩;obtain⟨va,vc,rfl⟩:=u.2.1.formN hm;obtain⟨c2,f2⟩:=u.2.2.1.bad;have ab:=u.2.2.1.lt;have E:=af hm;have c:=af u;have HF:=af (a0b b3 b6);have a1:=af u.2.2.1.far;have F:Hid (KI b w.heap.size w _):=(K5.ki _).trans (u.1.less K5.1.size);have HJ:=af (a0b (J5.1.ki u.1 (a0j _)) (J5.2.ki u.1 (a0j _)));clear hm u b3 b6;cases f
     .
      obtain⟨cu,hq,j⟩:=HF.1 rfl;rw[ae E]at cu;by_cases a0:m<N
      .
       have ac:(m:Int)<(N:Int):=(by omega);rw[wW hq (by rw[ae E];exact a0)]at j;have C:=af (tI (some ⟨gL,0,none⟩) (some ⟨gC,0,none⟩) 19 19 19 b q l s wr Hl cs (by have:=ae HN;omega) (qt c.2.2.1 hq) hq (fun W h=>(HJ.1.keep1 h (a0j _)).1) (fun W h=>(HJ.2.keep1 h (a0j _)).1));unfold qH at C;have Hq:=af hq;clear hq;rcases L:dec l (ak s) (8*s.size) q with _|⟨kk,q1⟩
       .
        rw[L]at C j;have B:Hid (d=none):=j.symm;clear L j;go_wp2_with fail;apply C.mono;rintro e x7⟨k7,xx,qq,rfl,r7⟩;have R:=af (Ev b x5.heap.size qq m vc va s A xx true x7 E (by omega) (c.keep1 t k7 r7 |> fun h=>⟨KI.refl _ _ _,h.2.1,h.2.2.1,h.2.2.2⟩) t nofun HN.1);have O:=af (c.1.trans (k7.ki _));clear C k7 r7 c2 f2;go_wp2_with fail;apply R.mono;rintro e x8⟨v8,A8,q8,f8,rfl,n8,t8,_⟩;have ht:f8=true:=t8 rfl;subst ht;have J:Hid (LaI b x5.heap.size N s l d x5 v8 x8):=⟨A8,q8,true,⟨O.trans n8.1,n8.2.1,n8.2.2.1,n8.2.2.2⟩,nofun,fun _=>ae B⟩;have a4:Hid (sJ b (8*s.size) x8<sJ b (8*s.size) wr):=by
         show _<_;rw[n8.2.2.1.far,ae a1];simp only[a0Y,a07,a08];omega
        clear n8 t8 R O;go_wp2_with fail;go_roundw
        case rel=>exact J
        case measure=>exact a4
       .
        rw[L]at C j;have D:=gB L;have U:=af (a0b D.1 D.2.1);have HE:=af j;clear L j D;go_wp2_with fail;apply C.mono;rintro e x7⟨k7,rfl,r7⟩;have co:RF x7 b s q1 false:=by have:=eO r7;rwa[a0m (by have:=ae U;omega)]at this
        have R:=af (Ev b x5.heap.size q1 m vc va s A kk false x7 E (by omega) (c.keep1 t k7 co |> fun h=>⟨KI.refl _ _ _,h.2.1,h.2.2.1,h.2.2.2⟩) t (fun _=>U.1) HN.1);have O:=af (c.1.trans (k7.ki _));clear C k7 r7 co c2 f2;go_wp2_with fail;apply R.mono;rintro e x8⟨v8,A8,q8,f8,rfl,n8,_,t8⟩;have t8':=t8 rfl;have hE:=ae HE;simp only[a0f]at hE;rw[t8']at hE;have J:Hid (LaI b x5.heap.size N s l d x5 v8 x8):=by
         refine⟨A8,q8,f8,⟨O.trans n8.1,n8.2.1,n8.2.2.1,n8.2.2.2⟩,fun h=>?_,fun h=>?_⟩
         . rw[h]at hE t8';have:=nw t8' U.1;rw[ae E]at this;exact⟨by omega,this.1,hE⟩
         . rw[h]at hE;exact hE.symm
        have a4:Hid (sJ b (8*s.size) x8<sJ b (8*s.size) wr):=by
         show _<_;rw[n8.2.2.1.far,ae a1];have:=ae U;have:=ae Hq;cases f8
         . have:=nw t8' U.1;simp only[a07,a08];omega
         . simp only[a0Y,a07,a08];omega
        clear n8 t8 t8' hE R O;go_wp2_with fail;go_roundw
        case rel=>exact J
        case measure=>exact a4
      .
       have ac:¬ (m:Int)<(N:Int):=(by omega);rw[wX hq (by rw[ae E];exact a0),ae E]at j;by_cases b9:m=N
       .
        subst b9;rw[a0d rfl]at j;have HE:=af j;clear j a0;obtain⟨g,rfl⟩:=c.2.1.somes (by rw[ae E];omega);have d2:m<=vc:=by
         rcases (c.2.1.own E).2 with⟨e,_⟩|⟨g',d0,d5,e,_,_,L,_⟩
         . cases e
         . simp only[a0L]at e;omega
        have tl:(A.take NL).length=NL:=by rw[a0u,ae E];omega
        have dl:(A.drop NL).length=m-NL:=(by rw[a04,ae E]);have JA:=af ((bX E (c.2.1.own E)).mono (b':=b+1) t);have JD:=af (JA.drop NL);rw[a0G]at JD;have x:=af (kP (some ⟨g,0,none⟩) vc NL (A.take NL) wr tl (JA.take NL).1 (by omega));have G:=af (kP (some ⟨g,NL,none⟩) (vc-NL) (m-NL) (A.drop NL) wr dl JD.1 (by omega));have d1:(NL:Int)<=(m:Int):=(by omega);clear tl dl;cases k1:ap (A.take NL)
        .
         have B:Hid (iS (ak s) (8*s.size) p=none):=by show _=_;rw[ae M,←ae HE];simp only[a0f];rw[a0e (fun h=>by rw[k1]at h;cases h.1)]
         rw[k1]at x;clear k1;go_wp2_with fail;apply x.mono;rintro e x7⟨rfl,rfl⟩;clear x;go_wp2
         go_ret2
         exact LmP.badEnd F c.2.2.1 B
        .
         rw[k1]at x;cases k2:ap (A.drop NL)
         .
          have B:Hid (iS (ak s) (8*s.size) p=none):=by show _=_;rw[ae M,←ae HE];simp only[a0f];rw[a0e (fun h=>by rw[k2]at h;cases h.2)]
          rw[k2]at G;clear k1 k2;go_wp2_with fail;apply x.mono;rintro e x7⟨rfl,rfl⟩;clear x;go_wp2_with fail;apply G.mono;rintro e x8⟨rfl,rfl⟩;clear G;go_wp2
          go_ret2
          exact LmP.badEnd F c.2.2.1 B
         .
          have B:Hid (iS (ak s) (8*s.size) p=some (NL,A,q)):=by show _=_;rw[ae M,←ae HE];simp only[a0f];rw[a0d ⟨k1,k2⟩]
          rw[k2]at G;clear k1 k2;go_wp2_with fail;apply x.mono;rintro e x7⟨rfl,rfl⟩;clear x;go_wp2_with fail;apply G.mono;rintro e x8⟨rfl,rfl⟩;clear G;go_wp2_with fail
          go_quiet (fail)
          go_wp2
          go_ret2
          have bb:Below x8.heap.size x8 (x8.drewN nq):=below_drewN (a0c _ _) nq;exact⟨F.grow bb (a0s ab),_,_,q,false,rfl,c.2.2.1.kept (bb.mono ab),nofun,fun _=>⟨NL,m-NL,A,_,_,_,_,rfl,rfl,B,by rw[ae E];omega,(JA.take NL).later bb,JD.later bb⟩⟩
       .
        rw[a0e b9]at j;have d3:¬ (m:Int)=(N:Int):=(by omega);have B:Hid (iS (ak s) (8*s.size) p=none):=by show _=_;rw[ae M,←j];rfl
        clear j;go_wp2
        go_ret2
        exact LmP.badEnd F c.2.2.1 B
     .
      have B:Hid (iS (ak s) (8*s.size) p=none):=by show _=_;rw[ae M,HF.2 rfl];rfl
      by_cases a0:m<N
      .
       have ac:(m:Int)<(N:Int):=(by omega);go_wp2
       go_ret2
       exact LmP.badEnd F c.2.2.1 B
      .
       have ac:¬ (m:Int)<(N:Int):=(by omega);go_wp2
       go_ret2
       exact LmP.badEnd F c.2.2.1 B
   .
    have B:Hid (iS (ak s) (8*s.size) p=none):=by show _=_;rw[ae HG,a0e (fun h=>I h.2)]
    have cy:wr.cell? ⟨b,2,none⟩=some (.bool (decide (8*s.size<P+3*k)))/\wr.frozen? ⟨b,2,none⟩=false:=(eO r.2.1).bad;have ab:=r.2.1.lt;obtain⟨c2,f2⟩:=cy;cases H:ap l
    .
     rw[H]at Q;clear H I;go_wp2_with fail;apply Q.mono;rintro e x4⟨rfl,rfl⟩;clear Q;go_wp2
     go_ret2
     exact LmP.badEnd (r.1.ki _) (eO r.2.1) B
    .
     rw[H]at Q;by_cases bc:NL<=286
     .
      have c8:¬ NB<=30:=fun h=>I ⟨H,bc,h⟩;have b0:¬ (286:Int)<(NL:Int):=(by omega);have cv:(30:Int)<(NB:Int):=(by omega);clear H I bc c8;go_wp2_with fail;apply Q.mono;rintro e x4⟨rfl,rfl⟩;clear Q;go_wp2
      go_ret2
      exact LmP.badEnd (r.1.ki _) (eO r.2.1) B
     .
      have b0:(286:Int)<(NL:Int):=(by omega);clear H I bc;go_wp2_with fail;apply Q.mono;rintro e x4⟨rfl,rfl⟩;clear Q;go_wp2
      go_ret2
      exact LmP.badEnd (r.1.ki _) (eO r.2.1) B
def Fs(b p n cap:Nat)(a:Option Addr)(s:ByteArray)(T:List UInt8)(d:Option (List UInt8×Nat))(w:World)(y:bC w (b+1) (.slice a n cap) T)(t:RF w b s p true)(A:s.size<=2000)(hd:T.length<=300->d=none)(P:Nat) :
  Calls prog 228 #[.pointer b,.slice a n cap] w (MP w b P s T d):=by
 obtain⟨p,z,t⟩:=t.cut;have f:Hid (MS w b s w (.slice a n cap) T p true):=⟨KU.refl _ _,y,t⟩;have o:=af (sd b p true s w t z (by omega));have x:=af A;have F:=af hd;clear y t A z hd;go_enter func228,ntmps228;by_cases j:ak s/2 ^ p%2 ^ ((8-p%8)%8)=0
 case' pos=>
  rw[a0B j]at o;clear j;go_wp2_with fail;apply o.mono;rintro e x1⟨rfl,q,u⟩;have c:=af (f.keep1 u q);clear u q o f
 case' neg=>
  rw[a0m j]at o;clear j;go_wp2_with fail;apply o.mono;rintro e x0⟨rfl,q,u⟩;have k:=af (f.keep1 u q);obtain⟨c0,f0⟩:=q.bad;clear u q o f;have c:=af (ae k).setBad;go_wp2_with fail;generalize x0.setCell ⟨b,2,none⟩ (.bool true)=x1 at *;clear k c0 f0
 all_goals
  obtain⟨Q1,hQ1⟩:∃Q,p+(8-p%8)%8=Q:=⟨_,rfl⟩;rw[hQ1]at c;have l:=af (jR b Q1 16 true s _ c.2.2 nofun (by have:=ae x;omega) (by omega));rw[a3p]at l;go_wp2_with fail;apply l.mono;rintro e x2⟨rfl,D,B⟩;have m:=af (c.keep1 B D);clear B D l c;have l:=af (jR b (Q1+16) 16 true s x2 m.2.2 nofun (by have:=ae x;omega) (by omega));obtain⟨X,hX⟩:∃X,ak s/2 ^ Q1%2 ^ 16=X:=⟨_,rfl⟩;obtain⟨Y,hY⟩:∃Y,ak s/2 ^ (Q1+16)%2 ^ 16=Y:=⟨_,rfl⟩;have G:(X:Int)<=65535:=by
   have:ak s/2 ^ Q1%2 ^ 16<65536:=a0Z _ (by decide);omega
  rw[a3p,hY]at l;rw[hX];clear hX hY;go_wp2_with fail;apply l.mono;rintro e x3⟨rfl,E,C⟩;have g:=af (m.keep1 C E);clear C E l m;obtain⟨c3,f3⟩:=g.2.2.bad;by_cases r:Y=65535-X
  case' neg=>
   have g1:¬ (Y:Int)=65535-(X:Int):=(by omega);have h:=af (ae g).setBad;clear r;go_wp2_with fail;generalize x3.setCell ⟨b,2,none⟩ (.bool true)=XW at *
  case' pos=>
   have g1:(Y:Int)=65535-(X:Int):=(by omega);clear r;rcases (by omega:(300:Int)<(X:Int)∨¬ (300:Int)<(X:Int))with gI|gI
   case' inl=>
    have h:=af (ae g).setBad;go_wp2_with fail;generalize x3.setCell ⟨b,2,none⟩ (.bool true)=XW at *
   case' inr=>
    have h:=g;go_wp2_with fail;generalize x3=XW at *
  all_goals
   have c4:=h.2.2.bad.1
   go_loopw [1,6] (fun v i wr=>v = .slice a n cap/\i = .int .i64 0/\wr=XW) (fun _ _ _=>0)
   case atStart=>exact⟨rfl,rfl,rfl⟩
   case round=>
    obtain⟨rfl,rfl,rfl⟩:=hrel;by_cases H:0<X
    all_goals
     go_wp2;go_ret;exact h.end (MR.bad F)
def FB(b p P n cap nL i nD h:Nat)(a al ad:Option Addr)(s:ByteArray)(T:List UInt8)(L D:List Int)(d:Option (List UInt8×Nat))(w:World)(z:bC w (b+1) (.slice a n cap) T)(m:RF w b s p true)(hd:T.length<=300->d=none)
  (x:L.length=nL) (u:D.length=nD) (okL:ap L=true) (okD:ap D=true) (jL:de w (b+1) al L) (jD:de w (b+1) ad D) :
  Calls prog 229 #[.pointer b,.slice a n cap,.slice al nL i,.slice ad nD h] w (MP w b P s T d):=by
 have j:=m.lt;have lL:=cG okL;have lD:=cG okD;have f:Hid (MS w b s w (.slice a n cap) T p true):=⟨KU.refl _ _,z,m⟩;have o:=af (eU al i nL L w x jL.1 (by omega));have q:=af (fun W (B:Below w.heap.size w W)=>eU ad h nD D W u (jD.later B).1 (by omega));have A:=af hd;clear z m x u okL okD jL jD hd;go_enter func229,ntmps229;go_wp2_with fail;apply o.mono;rintro e x1⟨rfl,o1,r⟩;have c:=af r;clear o1 r o;go_wp2_with fail;apply(q x1 (ae c)).mono;rintro e x2⟨rfl,o2,t⟩;have k:Below w.heap.size w x2:=c.trans (t.mono c.size);have g:MS w b s x2 (.slice a n cap) T p true:=⟨f.1.later k j,f.2.1.later k (a0a _),f.2.2.kept (k.mono j)⟩;have l:=af g;obtain⟨c2,f2⟩:=g.2.2.bad;have y:=g.lt;clear o2 t q k g f c;go_wp2_with fail
 go_loopw [1,11] (fun v _ wr=>v = .slice a n cap/\wr=x2) (fun _ _ _=>0)
 case atStart=>exact⟨rfl,rfl⟩
 case round=>
  obtain⟨rfl,rfl⟩:=hrel;go_wp2;go_ret;exact(l.setBad).end (MR.bad A)
def rJ(V sz p:Nat)(T:List UInt8):Option (List UInt8×Nat):=(rdN V sz p 1).bind fun a=>(rdN V sz a.2 2).bind fun k=>gw V sz k.1 k.2 T
def LP(h:p+1+2<=sz):rJ V sz p T=gw V sz (V/2 ^ (p+1)%2 ^ 2) (p+1+2) T:=by
 unfold rJ;rw[dn (by omega)];simp only[a0f];rw[dn h];rfl
def PG(h:¬ p+1+2<=sz):rJ V sz p T=none:=by
 unfold rJ;by_cases a:p+1<=sz
 . rw[dn a];simp only[a0f];rw[fS h];rfl
 . rw[fS a];rfl
def KS(h:¬ p+1+2<=8*s.size):ak s/2 ^ (p+1)%2 ^ 2<2:=by
 have a:=pi s (p+2) (by omega);rw[show p+2=p+1+1 by omega,a1x,←a1Y]at a;generalize ak s/2 ^ (p+1)=x at *;omega
def MR.from{b:Nat}(h:MR sz p T d T' q f)(c:b<=p):MR sz b T d T' q f:=⟨fun a=>⟨(h.1 a).1,a0E c (h.1 a).2.1,(h.1 a).2.2⟩,h.2⟩
def PmP(w:World)(b p:Nat)(s:ByteArray)(T:List UInt8)(l:Bool)(d:Option (List UInt8×Nat))(e:Ending)(w':World):Prop:=
 KU b w w'/\∃v T' q f,e = .returned (.tuple #[v,.bool l])/\bC w' (b+1) v T'/\RF w' b s q f/\MR (8*s.size) p T d T' q f
def MP.part{a:Nat}{l:Bool}(h:MP x b p s T d (.returned v) x')(j:KU b w x)(k:a<=p):PmP w b a s T l d (.returned (.tuple #[v,.bool l])) x':=by
 obtain⟨c,v',T',q,f,e,h2,g,i⟩:=h;simp only[Ending.returned.injEq]at e;subst e;exact⟨j.trans c,v,T',q,f,rfl,h2,g,i.from k⟩
def Ft(b p n cap:Nat)(a:Option Addr)(s:ByteArray)(T:List UInt8)(d:Option (List UInt8×Nat))(w:World)(j:T.length=n)(f:bC w (b+1) (.slice a n cap) T)(g:Rdr w b s p)(h:s.size<=2000)(i:n<=300+p)(hd:d=if p<=8*s.size then dX (ak s) (8*s.size) p T else none) :
  Calls prog 228 #[.pointer b,.slice a n cap] w (MP w b p s T d):=by
 by_cases c:p<=8*s.size
 . rw[hd,a0d c];exact Iz b p n cap a s T w j f g c h i
 . have e:=eO g;rw[a0B (by omega)]at e;exact Fs b p n cap a s T d w f e h (fun _=>by rw[hd,a0e c]) p
def uz(b p n cap nL e nD c:Nat)(a al ad:Option Addr)(s:ByteArray)(T:List UInt8)(L D:List Int)(d:Option (List UInt8×Nat))(w:World)(m:T.length=n)(j:bC w (b+1) (.slice a n cap) T)(k:Rdr w b s p)(q:s.size<=2000)(o:n<=100000)(hd:d=if p<=8*s.size then iP (ak s) (8*s.size) L D p T else none)
  (h:L.length=nL) (g:D.length=nD) (okL:ap L=true) (okD:ap D=true) (jL:de w (b+1) al L) (jD:de w (b+1) ad D) :
  Calls prog 229 #[.pointer b,.slice a n cap,.slice al nL e,.slice ad nD c] w (MP w b p s T d):=by
 by_cases f:p<=8*s.size
 .
  by_cases i:n<=300
  . rw[hd,a0d f];exact FD b p n cap nL e nD c a al ad s T L D w m j k f q i h g okL okD jL jD
  . exact FC b p n cap nL e nD c a al ad s T L D d w m j k f (by omega) o h g okL okD jL jD
 . have l:=eO k;rw[a0B (by omega)]at l;exact FB b p p n cap nL e nD c a al ad s T L D d w j l (fun _=>by rw[hd,a0e f]) h g okL okD jL jD
def bC.ki{base:Nat}(h:bC w base v T)(f:KI b w.heap.size w x)(hb:b<base):bC x base v T:=by
 refine⟨h.1,?_⟩;rcases h.2 with i|⟨g,cap,d,rfl,e,a,rest⟩
 . exact .inl i
 . have c:=(Array.getElem?_eq_some_iff.1 a).1;refine .inr ⟨g,cap,d,rfl,e,?_,rest⟩;rw[f.2 g c (by omega) c];exact a
def LQ(b p n cap:Nat)(a:Option Addr)(s:ByteArray)(T:List UInt8)(w:World)(hn:T.length=n)(ho:bC w (b+1) (.slice a n cap) T)(hr:Rdr w b s p)(hp:p<=8*s.size)(hs:s.size<=2000)(hT:n<=300+p) :
  Calls prog 195 #[.pointer b,.slice a n cap] w (PmP w b (p+1+2) s T (decide (((ak s/2 ^ p%2:Nat):Int)=1)) (rJ (ak s) (8*s.size) p T)):=by
 obtain⟨d,hd⟩:∃d,rJ (ak s) (8*s.size) p T=d:=⟨_,rfl⟩;rw[hd];obtain⟨X,hX⟩:∃X,ak s/2 ^ p%2=X:=⟨_,rfl⟩;obtain⟨K,hK⟩:∃K,ak s/2 ^ (p+1)%2 ^ 2=K:=⟨_,rfl⟩;have aa:K<4:=by rw[←hK];exact a0Z _ (by decide)
 have j:Hid (d=if p+1+2<=8*s.size then gw (ak s) (8*s.size) K (p+1+2) T else none):=by
  show d=_;rw[←hd];by_cases I:p+1+2<=8*s.size
  . rw[a0d I,LP I,hK]
  . rw[a0e I,PG I]
 have M:Hid (¬ p+1+2<=8*s.size->K<2):=fun h=>by rw[←hK];exact KS h
 have N1:=af (na b p s w hr (by omega));have N2:=af (fun W (h:Rdr W b s (p+1))=>jk b (p+1) 2 s W h (by omega) (by omega));rw[hX]at N1;rw[hK]at N2;rw[hX];have m:Hid (T.length=n/\s.size<=2000/\n<=300+p/\p<=8*s.size):=⟨hn,hs,hT,hp⟩;have Y:=af ho;have ab:(n:Int)<=100000:=by omega
 clear hn ho hr hp hs hT hd hX hK;go_enter func195,ntmps195;go_wp2_with fail;apply N1.mono;rintro e x1⟨rfl,r1,k1⟩;have u:=af (a0b r1 k1);clear r1 k1 N1;go_wp2_with fail;apply(N2 x1 (ae u).1).mono;rintro e x2⟨rfl,r2,k2⟩;have c:=af (a0b r2 (u.2.trans k2));have i:=af (Y.keep1 c.2 (a0j _));clear r2 k2 N2 u Y;generalize hP:p+1+2=P at *;have l:=c.1.lt;have R:K=0∨K=1∨K=2∨K=3:=by omega
 rcases R with rfl|rfl|rfl|rfl
 .
  have o:=af (Ft b P n cap a s T d x2 m.1 i c.1 m.2.1 (by have:=ae m;omega) j);go_wp2_with fail;apply o.mono;rintro e x3 k;obtain⟨v,rfl⟩:∃v,e = .returned v:=⟨_,k.2.choose_spec.choose_spec.choose_spec.choose_spec.1⟩;have E:=af k;clear k o;go_wp2
  go_ret2
  exact E.part c.2.ku (a0a _)
 .
  have B:=af (ue x2);go_wp2_with fail;apply B.mono;rintro e x3⟨v3,rfl,o3,H⟩;have l3:(cm 288).length=288:=by kernel_rfl
  obtain⟨a3,c3,rfl⟩:=o3.formN l3;have J3:=af ((bX l3 (o3.own l3)).mono (b':=b+1) l);have C:=af (a0b (c.1.kept (H.mono l)) (c.2.later H l));have O3:=af (i.later H (a0a _));have g:=C.1.lt;have V:=af (ud x3);clear B o3 H c i l3;go_wp2_with fail;apply V.mono;rintro e x4⟨v4,rfl,o4,F⟩;have l4:(List.replicate 32 (5:Int)).length=32:=by simp
  obtain⟨a4,c4,rfl⟩:=o4.formN l4;have o:=af (uz b P n cap 288 c3 32 c4 a a3 a4 s T (cm 288) (List.replicate 32 5) d x4 m.1 (O3.later F (a0a _)) (C.1.kept (F.mono g)) m.2.1 (by have:=ae m;omega) j (by kernel_rfl) l4 Jc Dv (J3.later F) ((bX l4 (o4.own l4)).mono (b':=b+1) g));have L:=af (C.2.later F g);clear V o4 F C O3 J3 l4;go_wp2_with fail;apply o.mono;rintro e x5 k;obtain⟨v,rfl⟩:∃v,e = .returned v:=⟨_,k.2.choose_spec.choose_spec.choose_spec.choose_spec.1⟩;have E:=af k;clear k o;go_wp2
  go_ret2
  exact E.part L.ku (a0a _)
 .
  have y:P<=8*s.size:=by
   by_cases h:P<=8*s.size
   . exact h
   . have:=ae M h;omega
  have B:=af (Lj b P s x2 c.1 y m.2.1);have r:Hid (d=(iS (ak s) (8*s.size) P).bind fun x=>iP (ak s) (8*s.size) (x.2.1.take x.1) (x.2.1.drop x.1) x.2.2 T):=by
   show d=_;rw[ae j,a0d y,←zE];rfl
  clear j y;go_wp2_with fail;apply B.mono;rintro e x3⟨J,va,vb,q,f,rfl,D,U,S⟩;have O3:=af (i.ki J (a0j _));have Z:=af (c.2.ku.trans J.ku);obtain⟨c3,f3⟩:=D.bad;have g:=D.lt;cases f
  .
   obtain⟨nL,nD,A,al,cl,ad,cd,rfl,rfl,Q,hA,jL,jD⟩:=S rfl;obtain⟨g1,g2,g3,g4⟩:=OM Q;have G:d=if q<=8*s.size then iP (ak s) (8*s.size) (A.take nL) (A.drop nL) q T else none:=by rw[ae r,Q,a0d g1];rfl
   have o:=af (uz b q n cap nL cl nD cd a al ad s T (A.take nL) (A.drop nL) d x3 m.1 O3 (qt D g1) m.2.1 (by have:=ae m;omega) G (by rw[a0u];omega) (by rw[a04];omega) g3 g4 jL jD);have N:=af g2;clear B J D U S Q hA jL jD g1 g2 g3 g4 G;go_wp2_with fail;apply o.mono;rintro e x5 k;obtain⟨v,rfl⟩:∃v,e = .returned v:=⟨_,k.2.choose_spec.choose_spec.choose_spec.choose_spec.1⟩;have E:=af k;clear k o;go_wp2
   go_ret2
   exact E.part Z N
  .
   have O:Hid (d=none):=by show d=none;rw[ae r,U rfl];rfl
   have C:=af D;clear B J D U S;go_wp2
   go_ret2
   exact⟨Z,_,T,q,true,rfl,O3,C,MR.bad (fun _=>ae O)⟩
 .
  have O:Hid (d=none):=by
   show d=none;rw[ae j]
   split
   . unfold gw;rw[a0e (by decide),a0e (by decide),a0e (by decide)]
   . rfl
  have z:MS w b s x2 (.slice a n cap) T P (decide (8*s.size<P)):=⟨c.2.ku,i,eO c.1⟩;obtain⟨c2,f2⟩:=z.2.2.bad;have t:=af z;clear z;go_wp2
  go_ret2
  exact⟨t.setBad.1,_,T,P,true,rfl,t.setBad.2.1,t.setBad.2.2,MR.bad (fun _=>ae O)⟩
