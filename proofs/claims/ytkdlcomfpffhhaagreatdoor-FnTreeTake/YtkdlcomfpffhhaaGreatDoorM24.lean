/- Of what the proof is made: 19 texts, one behind the other. -/
import Derived.Test.YtkdlcomfpffhhaaGreatDoorM18
import Derived.Test.YtkdlcomfpffhhaaGreatDoorM11
import Derived.Test.YtkdlcomfpffhhaaGreatDoorM12
import Derived.Test.YtkdlcomfpffhhaaGreatDoorM26
import Derived.Test.YtkdlcomfpffhhaaGreatDoorM21
import Derived.Test.YtkdlcomfpffhhaaGreatDoorM17
import Derived.Test.YtkdlcomfpffhhaaGreatDoorM22
import Derived.Test.YtkdlcomfpffhhaaGreatDoorTi1
import Derived.Test.YtkdlcomfpffhhaaGreatDoorM8
import Derived.Test.YtkdlcomfpffhhaaGreatDoorM14
import Derived.Test.YtkdlcomfpffhhaaGreatDoorM2
import Derived.Test.YtkdlcomfpffhhaaGreatDoorM4
set_option maxRecDepth 100000
set_option linter.unusedSimpArgs false
set_option linter.unusedVariables false
set_option maxHeartbeats 6400000
namespace Go.Proofs.YtkdlcomfpffhhaaGreatDoor
open Go.Proofs.Tryz
open Go.RowKit Corb
variable {a:Option Addr}{b:Nat}{l:List Int}{w w':World}
def gz(w:World)(b:Nat)(a:Option Addr)(l:List Int):Prop:=bn w a l/\(0<l.length->∀x,a=some x->x.block≠b/\∀cur fr,w.heap[x.block]?≠some (.cells cur 5 fr))
theorem gz.keep(h:gz w b a l)(k:bw b w w'):gz w' b a l:=by
 by_cases c:0<l.length
 .
  obtain⟨g,o,e,j,m⟩:=h.1 c;obtain⟨f,h2⟩:=h.2 c _ e;have hb:=k.2 g j f h2;refine⟨fun _=>⟨g,o,e,a0i j k.1,fun i n=>?_⟩,fun _ x ex=>?_⟩
  . rw[←m i n];exact World.cell?_of_block (w:=w) hb
  .
   have:x=⟨g,o,none⟩:=by rw[ex]at e;exact a0Z e
   subst this;exact⟨f,fun d fr=>by rw[hb];exact h2 d fr⟩
 . exact⟨fun h=>absurd h c,fun h=>absurd h c⟩
theorem gz.below(h:gz w b a l)(hb:Below w.heap.size w w'):gz w' b a l:=h.keep ⟨hb.size,fun k c _ _=>hb.block k c⟩
theorem Ji{base n cap:Nat}(k:l.length=n)(h:w.ownsRow base 3 1 (.slice a n cap) n (l.map (Value.int .i64)))(hb:b<base):gz w b a l:=by
 refine⟨yS k h,fun m x ex=>?_⟩;subst ex;rcases h.2 with⟨e,_⟩|⟨g,c,f,e,i,j,_⟩
 . cases e
 . simp only[a0O,a0m]at e;obtain⟨rfl,_⟩:=e;refine⟨by show g≠b;omega,fun d fr=>?_⟩;show w.heap[g]?≠_;rw[j];intro e;cases e
theorem ef{base n cap:Nat}(c:l.length=n)(h:ax w base (.slice a n cap) l)(hb:b<base):gz w b a l:=Ji c (h.own c) hb
def aT(p:Nat×Nat)(l:List (Int×Int)):Nat×Nat:=iA p (oZ l)
theorem aU(p:Nat×Nat)(l m:List (Int×Int)):aT p (l++m)=aT (aT p l) m:=by
 unfold aT oZ;rw[a1d,kV]
def pcM(l:List Int)(k:Nat):Int×Int:=((rv (l.getD k 0).toNat ((a8 l 15).2.getD k 0).toNat:Nat),l.getD k 0)
theorem Out.kept{V m:Nat}(h:Out w b V m)(hb:Below w.heap.size w w'):Out w' b V m:=by
 obtain⟨c,v,a,e⟩:=h;refine⟨c,v,Three.kept a (hb.mono a.2.2.2.2.2.2),?_⟩;exact a1y e (row:=none) ⟨hb.os,hb.tape,hb.output,hb.size,fun k d _=>hb.block k d⟩ (by
  cases f:v.ownBlock with
  | none=>exact .inl rfl
  | some k=>exact .inr (by simp))
theorem Out.lt{V m:Nat}(h:Out w b V m):b<w.heap.size:=by
 obtain⟨_,_,a,_⟩:=h;exact a.2.2.2.2.2.2
def iH(w:World)(b:Nat)(p:Nat×Nat):Prop:=Out w b p.1 p.2
theorem dY(b:Nat)(p:Nat×Nat)(num bits:Int)(w:World)(h:iH w b p)(c:pOk num bits=true)(k:p.2<=100000) :
  Calls prog 238 #[.pointer (some ⟨b,0,none⟩),.int .i64 num,.int .i64 bits] w fun e w'=>e = .returned (.tuple #[])/\iH w' b (aT p [(num,bits)])/\KB b w w':=by
 obtain⟨⟨f,g⟩,n0,n1⟩:=aV.1 c;have a:num.toNat<p2 bits.toNat:=by
  have:(num.toNat:Int)<((p2 bits.toNat:Nat):Int):=by rw[Int.toNat_of_nonneg n0];exact n1
  omega
 have i:p2 bits.toNat<=p2 16:=a0W (by omega) (by omega);have e16:p2 16=65536:=by decide
 refine(Js b p.1 p.2 num bits w h n0 (by omega) f g k).mono ?_;rintro e w' ⟨rfl,d,j⟩;refine⟨rfl,?_,j⟩;rw[a1u a]at d;exact d
theorem mU{k:Nat}(h:0<=l.getD k 0/\l.getD k 0<=15):pOk (pcM l k).1 (pcM l k).2=true:=by
 refine aV.2 ⟨⟨h.1,by show l.getD k 0<=16;omega⟩,by show(0:Int)<=((_:Nat):Int);omega,?_⟩;show((rv (l.getD k 0).toNat ((a8 l 15).2.getD k 0).toNat:Nat):Int)<((p2 (l.getD k 0).toNat:Nat):Int);have:=MI (l.getD k 0).toNat ((a8 l 15).2.getD k 0).toNat
 unfold p2;omega
theorem oj(b:Nat)(p:Nat×Nat)(a ac:Option Addr)(cap n u k:Nat)(l:List Int)(w:World)(v:iH w b p)(q:l.length=n)(h:bn w a l)(g:bn w ac (a8 l 15).2)(y:k<n)(z:n<=300)(r:0<=l.getD k 0/\l.getD k 0<=15)(x:0<=(a8 l 15).2.getD k 0/\(a8 l 15).2.getD k 0<65536)(A:p.2<=100000) :
  Calls prog 262 #[.pointer (some ⟨b,0,none⟩),.slice a n cap,.slice ac n u,.int .i64 (k:Int)] w fun e w'=>e = .returned (.tuple #[])/\iH w' b (aT p [pcM l k])/\KB b w w':=by
 have HP:=af (Bkx.l3Piece_any a ac cap n u k l (a8 l 15).2 w q ((bK l 15).trans q) h g y z r x);have j:=af (mU r);have f:Hid (pcM l k=(((rv (l.getD k 0).toNat ((a8 l 15).2.getD k 0).toNat:Nat):Int),l.getD k 0)):=rfl;rw[ae f]at j;generalize pcM l k=PC at *
 generalize rv (l.getD k 0).toNat ((a8 l 15).2.getD k 0).toNat=R at *
 generalize l.getD k 0=Y at *
 have s:=af v;clear v h g r x q;go_enter func262,ntmps262;go_wp2_with fail;refine(ae HP).mono ?_;rintro e x1 ⟨rfl,c⟩;have d:Below w.heap.size w (x1.alloc (.cells #[.int .i64 (R:Nat),.int .i64 Y] 173)):=c.alloc c.size _;have o:=af (Out.kept (ae s) d);have m:=af ((KB.refl b w).below d (a0y (Out.lt (ae s))));clear c d HP;go_wp2_with fail;refine(dY b p (R:Nat) Y _ (ae o) (ae j) A).mono ?_;rintro e x2 ⟨rfl,h2,i⟩;have t:=af (a0b h2 ((ae m).trans i));clear h2 i;go_wp2
 go_end0
 exact⟨rfl,by rw[ae f];exact(ae t).1,(ae t).2⟩
end Go.Proofs.YtkdlcomfpffhhaaGreatDoor
namespace Go.Proofs.YtkdlcomfpffhhaaGreatDoor
open Go.Proofs.Tryz
open Go.RowKit Corb Bkx
set_option linter.defProp false
variable {b:Nat}{w w':World}
theorem aw.drew(h:aw b w w'):aw b w w'.drew:=⟨h.1.drew,h.2,h.3⟩
theorem bT.keep1{base:Nat}{a:Option Addr}{l:List Int}(h:bT w base a l)(c:aw b w w')(hb:b<base):bT w' base a l:=h.moved c.1.size (fun g e d _=>c.2 g d (by omega))
theorem bE.keep1{base:Nat}{l:List Int}{C:Array Value}(h:bE w base l C)(c:aw b w w')(hb:b<base):bE w' base l C:=by
 obtain⟨a,cap,ac,d,q,sc,e,f,h2,g⟩:=h;exact⟨a,cap,ac,d,q,sc,e,f.keep1 c hb,h2.keep1 c hb,g.keep1 c hb⟩
def SyP(w:World)(b:Nat)(s:ByteArray)(d:Option (Int×Nat))(e:Ending)(w':World):Prop:=
 aw b w w'/\match d with
  | none=>e=iY
  | some (i,q)=>e = .returned (.int .i64 i)/\Rdr w' b s q
def oz:Array Value:=#[Value.slice none 0 0,Value.slice none 0 0,Value.int .i64 0,Value.int .i64 0,Value.int .i64 0,Value.int .i64 0,Value.int .i64 0,Value.int .i64 0,Value.int .i64 0,Value.int .i64 0,Value.int .i64 0,Value.int .i64 0,Value.int .i64 0,Value.int .i64 0,Value.int .i64 0,Value.int .i64 0,Value.int .i64 0,Value.int .i64 0,Value.slice none 0 0]
theorem Tryz.infoLenB:(prog.info? 259).map (·.size)=some 19:=by kernel_rfl
theorem GG(B:BkI)(i:Bks B)(b p base:Nat)(C:Array Value)(l:List Int)(s:ByteArray)(w:World)(h:bE w base l C)(c:b<base)(d:ay l=true)(n:s.size<=2000000)(m:Rdr w b s p)(k:p<=8*s.size) :
  Calls prog B.g #[.agg C,.pointer (some ⟨b,0,none⟩)] w (lp w b s (dec l (ai s) (8*s.size) p)):=by
 obtain⟨a,cap,ac,o,q,sc,e,r,h2,f⟩:=h;exact Bkx.bookGet_any B i a q cap l.length _ sc b p _ C l s w e d rfl n m k (fun W j=>(f.keep1 j c).1)
theorem re(B:BkI)(M:Bks B)(b p base:Nat)(C:Array Value)(l:List Int)(s:ByteArray)(w:World)(N:bE w base l C)(E:b<base)(H:ay l=true)(Y:s.size<=2000000)(R:Rdr w b s p)(X:p<=8*s.size) :
  Calls prog B.s #[.pointer (some ⟨b,0,none⟩),.agg C] w (SyP w b s (dec l (ai s) (8*s.size) p)):=by
 have G:prog.follows .mixedOrders=true:=by kernel_rfl
 have O:=R.lt;have V:Below w.heap.size w (w.alloc (.cells C B.T)):=(a0c _ _).alloc (a0a _) _;have z:aw b w (w.alloc (.cells C B.T)).drew:=((aw.refl b w).alloc O _).drew;have I:Rdr (w.alloc (.cells C B.T)).drew b s p:=R.alloc _;have y:bE (w.alloc (.cells C B.T)).drew base l C:=N.later V.drew;have J:=N.size;have F:(prog.info? B.T).map (·.size)=some C.size:=by rw[J];exact M.info
 have r:(w.alloc (.cells C B.T)).rangeAt w.heap.size 0 C.toList:=by
  intro j v U;rw[a0B,kz (alloc_at w (.cells C B.T))];simpa using U
 have L:=af (GG B M b p base C l s _ y E H Y I X);have o:=af z;have Q:w.heap.size≠b:=by omega
 have a:Hid (∀W,aw b (w.alloc (.cells C B.T)).drew W->W.rangeAt w.heap.size 0 C.toList):=by
  intro W hW j v U;rw[←r j v U];exact World.cell?_of_block (w:=w.alloc (.cells C B.T)) (hW.2 w.heap.size (by simp) Q)
 have A:(w.alloc (.cells C B.T)).drew.rangeAt w.heap.size 0 C.toList:=r;clear N H Y R X V z I y J r E;obtain⟨ds,D,P⟩:=M.und;rcases M with rfl|rfl|rfl;all_goals
  simp only[bkL,bkD,bkN]at F L o a A D ⊢;generalize dec l (ai s) (8*s.size) p=d at *
  unfold SyP;unfold lp at L;rcases d with _|⟨i,q⟩;all_goals
   simp only at L ⊢
   (first|go_enter func280,ntmps280|go_enter func288,ntmps288|go_enter func282,ntmps282)
   go_wp2_with fail;refine a0H (S:=fun W=>W.rangeAt w.heap.size 0 C.toList) G A (fun x=>?_);refine a0Q (i:=0) (v:=.agg C) rfl (by kernel_rfl) (by kernel_rfl) (by kernel_rfl) (fun _ _ _ h=>h) (iG (by rfl) _ (.tmp 3) rfl w.heap.size 0 rfl C _ (fun _ h=>h) D P F) x ?_;refine ag 1 (.pointer (some ⟨b,0,none⟩)) rfl (by kernel_rfl) (fun _ _ _ h=>h) rfl (fun W f=>by go_simp) x ?_;refine ag 2 (.pointer (some ⟨b,0,none⟩)) rfl (by kernel_rfl) (fun _ _ _ h=>h) rfl (fun W f=>by go_simp) x ?_;refine ag 3 (.pointer (some ⟨b,0,none⟩)) rfl (by kernel_rfl) (fun _ _ _ h=>h) rfl (fun W f=>by go_simp) x ?_;refine ah 4 (by kernel_rfl) rfl fun K g=>?_;go_simp
   (first|go_at_call 286|go_at_call 292|go_at_call 290)
   refine(ae L).mono ?_
  . rintro e x1 ⟨m,rfl⟩;have n:=af ((ae o).trans m);refine a0f g _ _ (ae a _ m) (fun c=>?_);clear g K;refine a0Q (i:=5) (v:=.tuple #[.int .i64 0,.bool false]) rfl (by kernel_rfl) (by kernel_rfl) (by kernel_rfl) (fun _ _ _ h=>h) (a0I ⟨by rfl,fun W f=>by go_simp⟩) c ?_;refine a0Q (i:=6) (v:=.int .i64 0) rfl (by kernel_rfl) (by kernel_rfl) (by kernel_rfl) (fun _ _ _ h=>h) (a0I ⟨by rfl,fun W f=>by go_simp⟩) c ?_;refine a0Q (i:=7) (v:=.bool false) rfl (by kernel_rfl) (by kernel_rfl) (by kernel_rfl) (fun _ _ _ h=>h) (a0I ⟨by rfl,fun W f=>by go_simp⟩) c ?_;refine ah 8 (by kernel_rfl) rfl fun K g=>?_;go_simp;refine a0f g _ _ (ae a _ m) (fun t=>?_);clear g K;refine ah 9 (by kernel_rfl) rfl fun K g=>?_;go_simp;refine a0f g _ _ (ae a _ m) (fun u=>?_);clear g K;refine a0u (by kernel_rfl) ?_ _;clear x c t u m a;go_wp2_with fail;refine(er _).mono ?_;rintro e x2 ⟨rfl,k⟩;rw[k];clear k x2;exact⟨rfl,ae n,rfl⟩
  . rintro e x1 ⟨m,rfl,Z⟩;have n:=af (a0b ((ae o).trans m) Z);refine a0f g _ _ (ae a _ m) (fun c=>?_);clear g K;refine a0Q (i:=5) (v:=.tuple #[.int .i64 i,.bool true]) rfl (by kernel_rfl) (by kernel_rfl) (by kernel_rfl) (fun _ _ _ h=>h) (a0I ⟨by rfl,fun W f=>by go_simp⟩) c ?_;refine a0Q (i:=6) (v:=.int .i64 i) rfl (by kernel_rfl) (by kernel_rfl) (by kernel_rfl) (fun _ _ _ h=>h) (a0I ⟨by rfl,fun W f=>by go_simp⟩) c ?_;refine a0Q (i:=7) (v:=.bool true) rfl (by kernel_rfl) (by kernel_rfl) (by kernel_rfl) (fun _ _ _ h=>h) (a0I ⟨by rfl,fun W f=>by go_simp⟩) c ?_;refine ah 8 (by kernel_rfl) rfl fun K g=>?_;go_simp;refine a0f g _ _ (ae a _ m) (fun t=>?_);clear g K;refine ah 9 (by kernel_rfl) rfl fun K g=>?_;go_simp;refine a0f g _ _ (ae a _ m) (fun u=>?_);clear g K;refine a0u (by kernel_rfl) ?_ _;clear x c t u m a;clear Z;go_wp2_with fail;refine(cG _).mono ?_;rintro e x2 ⟨rfl,k⟩;rw[k];clear k x2;go_wp2;go_ret;exact⟨(ae n).1,rfl,(ae n).2⟩
theorem vB(B:BkI)(A:Bks B)(a:Option Addr)(cap n base:Nat)(l:List Int)(w:World)(u:l.length=n)(h:bT w base a l)(Z:base<=w.heap.size)(hm:n<=1000) :
  Calls prog B.b #[.slice a n cap] w fun e w'=>Below w.heap.size w w'/\if ay l=true then ∃C,e = .returned (.agg C)/\bE w' base l C else e=iY:=by
 obtain⟨W0,hW0⟩:∃W,w.alloc (.cells oz B.T)=W:=⟨_,rfl⟩;have S0:W0.heap.size=w.heap.size+1:=by rw[←hW0];exact dt _ _
 have I:Below w.heap.size w W0:=by rw[←hW0];exact(a0c _ _).alloc (a0a _) _
 have T0:Hid (W0.there w.heap.size 0 19):=by rw[←hW0];exact jw w oz _ _ rfl
 have r:bn W0 a l:=(h.later I).1;have G:=af (rD a cap n l W0 u r (by omega));have E0:=af hW0;unfold oz at E0;have v:=af I;have y:=af S0;have Q:=af h;have S:=af u;clear hW0 S0 I;have m:=fun V=>Bkx.codeBook_any B A a cap n l W0 u r V;have s:=A.info;have K:=af A.ne;obtain⟨Y,D,L⟩:=A.und;rcases A with rfl|rfl|rfl;all_goals
  simp only[bkL,bkD,bkN]at E0 s m D ⊢;cases c:ay l
  .
   rw[c]at G;simp only[a1e,a1f];clear c
   (first|go_enter func272,ntmps272|go_enter func273,ntmps273|go_enter func283,ntmps283)
   go_wp2_with fail;rw[ae E0];refine(ae G).mono ?_;rintro e x1 ⟨rfl,d⟩;rw[d];clear d x1;go_wp2_with fail;refine(er _).mono ?_;rintro e x2 ⟨rfl,f⟩;rw[f];clear f x2;exact⟨rfl,ae v,rfl⟩
  .
   rw[c]at G;simp only[a09];have J:=af (m (by have:=bC c;omega));clear c r h u m
   (first|go_enter func272,ntmps272|go_enter func273,ntmps273|go_enter func283,ntmps283)
   go_wp2_with fail;rw[ae E0];refine(ae G).mono ?_;rintro e x1 ⟨rfl,d⟩;rw[d];clear d x1;go_wp2_with fail;refine(cG _).mono ?_;rintro e x2 ⟨rfl,f⟩;rw[f];clear f x2;go_wp2_with fail;refine(ae J).mono ?_;rintro e x3 ⟨vs,C,rfl,t,H,h2,hb⟩;obtain⟨q,sc,rfl⟩:=h2.form;have F:C.size=19:=by rw[t];simp[ci]
   have k:C.all (·.oneCell')=true:=by rw[t];exact iW rfl rfl rfl
   have z:Hid (x3.there w.heap.size 0 19):=fun j M=>by
    obtain⟨t1,t2⟩:=ae T0 j M;have E:w.heap.size<W0.heap.size:=by have:=ae y;omega
    exact⟨by rw[hb.cell (p:=⟨w.heap.size,0+j,none⟩) E];exact t1,by rw[hb.frozen (p:=⟨w.heap.size,0+j,none⟩) E];exact t2⟩
   have i:=af F;have x:=af k;have R:=af (a0b t (a0b H (a0b h2 hb)));clear F k t H h2 hb;go_wp2_with (refine a3N rfl _ (.tmp 2) (.tmp 7) rfl w.heap.size 0 C rfl rfl (by rw[ae i];exact ae z) (by rw[ae i];exact s) (ae x) ?_);obtain⟨t,H,h2,hb⟩:=ae R;have X:=a3O x3 w.heap.size 0 C.toList (by rw[a2n,ae i];exact ae z);have N:∀j,j≠w.heap.size->(x3.setCells w.heap.size 0 C.toList).heap[j]?=x3.heap[j]?:=fun j M=>cZ _ _ _ _ j M;have P:(x3.setCells w.heap.size 0 C.toList).heap.size=x3.heap.size:=size_setCells _ _ _ _;have o:=am (ae v) hb;have s0:=ae y;refine a0R (ew rfl _ _ w.heap.size _ _ rfl X D L (by rw[a2n,ae i];exact s)) rfl ⟨below_setCells (a0a _) _ _ _ o,C,by simp,?_⟩;have u:=ae S;subst u;have O:bT (x3.setCells w.heap.size 0 C.toList) base a l:=(ae Q).moved (by rw[P];exact o.size) (fun g _ U _=>(N g (by omega)).trans (o.block g U));exact⟨a,cap,_,_,q,sc,t,O,((bU (bK l 15) (H.own (bK l 15))).mono (b':=w.heap.size+1) (by omega)).touch P N (by omega) |>.mono (by omega),((bU rfl h2 (ae K)).mono (b':=w.heap.size+1) (by omega)).touch P N (by omega) |>.mono (by omega)⟩
def sf:=@re bkL (.inl rfl)
def EZ:=@vB bkL (.inl rfl)
def xp:=@re bkD (.inr (.inl rfl))
def AC:=@vB bkD (.inr (.inl rfl))
def Bj:=@re bkN (.inr (.inr rfl))
def ES:=@vB bkN (.inr (.inr rfl))
end Go.Proofs.YtkdlcomfpffhhaaGreatDoor
namespace Go.Proofs.YtkdlcomfpffhhaaGreatDoor
open Go.Proofs.Tryz
open Go.RowKit Corb
variable {A D L l:List Int}{B V b g k kk n o p q q' sz:Nat}{C:Array Value}{R T T':List UInt8}{a:Option Addr}{d:Option (List UInt8×Nat)}{f:Bool}{s:ByteArray}{t:TypeId}{v v':Value}{w w' w1 w2 x x':World}
def Sou(w:World)(b:Nat)(s:ByteArray)(p:Nat)(T:List UInt8):Prop:=
 Rdr w b s p/\∃v,w.cell? ⟨b,3,none⟩=some v/\w.frozen? ⟨b,3,none⟩=false/\aK w (b+1) v T
theorem aK.keep1{base:Nat}{l:List UInt8}(h:aK w base v l)(a:aw b w w')(hb:b<base):aK w' base v l:=a.own h hb
theorem Sou.keep1(h:Sou w b s p T)(a:aw b w w')(d:Rdr w' b s q):Sou w' b s q T:=by
 obtain⟨_,v,c,f,o⟩:=h;exact⟨d,v,(a.3 3 (a0a _)).1.trans c,(a.3 3 (a0a _)).2.trans f,o.keep1 a (a0l _)⟩
theorem Sou.lt(h:Sou w b s p T):b<w.heap.size:=h.1.lt
structure KU (b:Nat) (w w':World):Prop where
 below:Below b w w'
 keep:∀k,k<w.heap.size->k≠b->(∀cur fr,w.heap[k]?≠some (.cells cur 5 fr))->w'.heap[k]?=w.heap[k]?
theorem KU.refl(b:Nat)(w:World):KU b w w:=⟨a0c _ _,fun _ _ _ _=>rfl⟩
theorem KU.trans(h:KU b w w1)(k:KU b w1 w2):KU b w w2:=
 ⟨h.1.trans k.1,fun j c a d=>(k.2 j (a0i c h.1.size) a (by rw[h.2 j c a d];exact d)).trans (h.2 j c a d)⟩
theorem aw.ku(h:aw b w w'):KU b w w':=⟨h.1,fun j c a _=>h.2 j c a⟩
theorem KU.later(h:KU b w w1)(hb:Below w1.heap.size w1 w2)(a:b<w1.heap.size):KU b w w2:=
 ⟨h.1.trans (hb.mono (a0y a)),fun j d c e=>(hb.block j (a0i d h.1.size)).trans (h.2 j d c e)⟩
theorem Sou.later(h:Sou w b s p T)(hb:Below w.heap.size w w'):Sou w' b s p T:=by
 obtain⟨r,v,c,f,o⟩:=h;exact⟨r.kept (hb.mono r.lt),v,(hb.cell (p:=⟨b,3,none⟩) r.lt).trans c,(hb.frozen (p:=⟨b,3,none⟩) r.lt).trans f,o.later hb (a0a _)⟩
theorem bT.ku{base:Nat}(h:bT w base a l)(c:KU b w w')(hb:b<base):bT w' base a l:=h.moved c.1.size (fun g f d e=>c.2 g d (by omega) e)
theorem bE.ku{base:Nat}(h:bE w base l C)(c:KU b w w')(hb:b<base):bE w' base l C:=by
 obtain⟨a,cap,ac,d,q,sc,e,f,h2,g⟩:=h;exact⟨a,cap,ac,d,q,sc,e,f.ku c hb,h2.ku c hb,g.ku c hb⟩
theorem eA.ku{base:Nat}(h:eA w base L D C)(a:KU b w w')(hb:b<base):eA w' base L D C:=by
 obtain⟨c,d,e,f,h2⟩:=h;exact⟨c,d,e,f.ku a hb,h2.ku a hb⟩
theorem eA.keep1{base:Nat}(h:eA w base L D C)(a:aw b w w')(hb:b<base):eA w' base L D C:=h.ku a.ku hb
theorem Ao{base:Nat}{l:List UInt8}(h:aK w base v l)(hb:b<base)(u:Value):aK (w.setCell ⟨b,o,none⟩ u) base v l:=by
 refine⟨h.1,?_⟩;rcases h.2 with e|⟨g,cap,a,rfl,c,d,rest⟩
 . exact .inl e
 . exact .inr ⟨g,cap,a,rfl,c,(a0T _ _ _ g (by show g≠b;omega)).trans d,rest⟩
def cn(w:World)(b:Nat)(s:ByteArray)(d:Option (List UInt8×Nat))(e:Ending)(w':World):Prop:=
 KU b w w'/\match d with
  | none=>e=iY
  | some (T,q)=>e = .returned (.tuple #[])/\Sou w' b s q T
theorem Dd(b p:Nat)(s:ByteArray)(T:List UInt8)(t:Tk)(w:World)(h:Sou w b s p T)(C:T.length<=300)(z:okT t=true) :
  Calls prog 268 #[.pointer (some ⟨b,0,none⟩),lm t] w (cn w b s ((dT T t).map fun x=>(x,p))):=by
 have u:=h.lt;obtain⟨A,v,c3,f3,m⟩:=h;obtain⟨n,g⟩:∃n,T.length=n:=⟨_,rfl⟩;obtain⟨a,cap,rfl⟩:=m.formN g;have i:=af (U.lzLay_any (b+1) n cap a T t w g m (by omega) u z);have E:=af A;have D:=af f3;unfold cn;rcases l:dT T t with _|T'
 .
  rw[l]at i;simp only[Option.map_none];clear l m C g z A f3;generalize lm t=tv at *
  go_enter func268,ntmps268;go_wp2_with fail;refine(ae i).mono ?_;rintro e x1 ⟨v1,rfl,o1,d⟩;simp only[Option.isSome_none];have o:Hid (KU b w x1):=⟨d.1.mono (a1k _),fun j r _ g=>d.2 j r g⟩;clear o1 d i;go_wp2_with fail;refine(er _).mono ?_;rintro e x2 ⟨rfl,c⟩;rw[c];clear c x2;exact⟨rfl,ae o,rfl⟩
 .
  rw[l]at i;simp only[a3U];clear l m C g z A f3;generalize lm t=tv at *
  go_enter func268,ntmps268;go_wp2_with fail;refine(ae i).mono ?_;rintro e x1 ⟨v1,rfl,o1,d⟩;simp only[Option.isSome_some,a1q]at o1 ⊢;have o:Hid (KU b w x1):=⟨d.1.mono (a1k _),fun j r _ g=>d.2 j r g⟩;have k:=(ae E).kept d.1;have q:=(d.1.cell (p:=⟨b,3,none⟩) (a0l b)).trans c3;have f31:=(d.1.frozen (p:=⟨b,3,none⟩) (a0l b)).trans (ae D);obtain⟨a1,f,rfl⟩:=o1.form;have B:=af (a0b k o1);clear o1 d i k;go_wp2_with fail;refine(cG _).mono ?_;rintro e x2 ⟨rfl,c⟩;rw[c];clear c x2;go_wp2
  go_end0
  have F:KU b w (x1.setCell ⟨b,3,none⟩ (.slice a1 T'.length f)):=(ae o).trans ⟨ap (a0c _ _) (a0a _) _,fun j _ y _=>a0T _ _ _ j y⟩;refine⟨F,rfl,?_,.slice a1 T'.length f,World.cell?_setCell_same _ _ _ q,by simpa using f31,?_⟩
  . obtain⟨c0,c1,c2,g0,g1,g2,hb⟩:=(ae B).1;exact⟨by rw[World.cell?_setCell_other _ _ _ _ (by simp)];exact c0,by rw[World.cell?_setCell_other _ _ _ _ (by simp)];exact c1,by rw[World.cell?_setCell_other _ _ _ _ (by simp)];exact c2,by simpa using g0,by simpa using g1,by simpa using g2,by simpa using hb⟩
  . exact Ao (ae B).2 (a0l _) _
def TkP(w:World)(b:Nat)(s:ByteArray)(d:Option (Tk×Nat))(e:Ending)(w':World):Prop:=
 aw b w w'/\match d with
  | none=>e=iY
  | some (t,q)=>e = .returned (lm t)/\Rdr w' b s q
def okG(d:Option (Tk×Nat)):Option (Tk×Nat):=d.bind fun t=>if okT t.1=true then some t else none
theorem Ci{base:Nat}(h:eA w base L D C):∃a b,C=a++b/\bE w base L a/\bE w base D b/\(w.alloc (.cells C 184)).rangeAt w.heap.size 0 a.toList/\(w.alloc (.cells C 184)).rangeAt w.heap.size 19 b.toList:=by
 obtain⟨a,b,rfl,c,h2⟩:=h;obtain⟨d,e⟩:=pJ (alloc_at w (.cells (a++b) 184)) c.size;exact⟨a,b,rfl,c,h2,d,e⟩
theorem p8{c:List Value}(h:w.rangeAt g o c)(e:aw b w w')(d:g<w.heap.size)(a:g≠b):w'.rangeAt g o c:=fun j v f=>by
 rw[←h j v f];exact World.cell?_of_block (w:=w) (e.2 g d a)
theorem Cd(b p k:Nat)(C:Array Value)(s:ByteArray)(w:World)(a:Rdr w b s p)(g:k<256) :
  Calls prog 281 #[.pointer (some ⟨b,0,none⟩),.int .i64 (k:Nat),.agg C] w fun e w'=>aw b w w'/\e = .returned (lm ((k:Nat),0,0))/\Rdr w' b s p:=by
 have c:isB (((k:Nat):Int),0,0)=true:=by unfold isB inB;simp;omega
 rw[tg c];have h:(k:Int)<256:=by omega
 have i:IntKind.u8.wrap (k:Int)=(k:Int):=vm (by omega) (by omega);have d:Hid (aw b w (w.alloc (.cells C 184))):=(aw.refl b w).alloc a.lt _;have f:Hid (Rdr (w.alloc (.cells C 184)) b s p):=a.alloc _;clear a g c;go_enter func281,ntmps281;go_wp2;go_ret;exact⟨ae d,rfl,ae f⟩
theorem Ce(b p k base:Nat)(L D:List Int)(C:Array Value)(s:ByteArray)(w:World)(hr:Rdr w b s p)(hk:k<=900)(X:eA w base L D C)(ac:b<base)(f:ay D=true)(hs:s.size<=2000000) :
  Calls prog 281 #[.pointer (some ⟨b,0,none⟩),.int .i64 ((k:Nat)+257),.agg C] w (TkP w b s (okG (fi (ai s) (8*s.size) D k p))):=by
 have a2:prog.follows .mixedOrders=true:=by kernel_rfl
 obtain⟨d,hd⟩:∃d,okG (fi (ai s) (8*s.size) D k p)=d:=⟨_,rfl⟩;rw[hd];have Hd:=af hd;obtain⟨T,o,rfl,G,h2,r1,r2⟩:=Ci X;have a1:=hr.lt;have hA:Below w.heap.size w (w.alloc (.cells (T++o) 184)):=(a0c _ _).alloc (a0a _) _;have a3:w.heap.size≠b:=by omega
 have bs:(prog.info? 182).map (·.size)=some o.size:=by rw[h2.size];exact Tryz.infoDistB
 have O:=af (a0b ((aw.refl b w).alloc a1 (.cells (T++o) 184)) (a0b (hr.alloc (.cells (T++o) 184)) (a0b (h2.later hA) r2)));have B:w.heap.size<(w.alloc (.cells (T++o) 184)).heap.size:=by simp
 have HS:=af hs;have U:=af f;have J:=af ac;clear hr X G h2 r1 r2 hd hs f ac;go_enter func281,ntmps281;go_wp2_with fail;generalize w.alloc (.cells (T++o) 184)=w1 at *
 generalize bk:w.heap.size=g at *
 clear bk hA a1;refine(tJ w1).mono ?_;rintro e w2 ⟨rfl,R⟩;have ao:=(ae O).1.later R (ae O).2.1.lt;have a4:=(ae O).2.1.kept (R.mono (ae O).2.1.lt);have a6:=(ae O).2.2.1.later R;have ad:w2.rangeAt g 19 o.toList:=p9 (ae O).2.2.2 R B;have z:g<w2.heap.size:=a0i B R.size;have n:=af (sR 3 4 28 b p k s w2 a4 (ae HS) (by omega) (by omega) (by omega) (by omega) (fun k h=>by omega) (by omega));have r:=af (a0b ao (a0b a6 ad));clear R ao a4 a6 ad O B;have ek:(k:Int)+257-256-1=(k:Int):=by omega
 unfold ig at n;rcases G:scG (ai s) (8*s.size) 3 4 28 k p with _|⟨x,q1⟩
 .
  rw[G]at n;have F:Hid (d=none):=by show d=none;rw[←ae Hd];unfold okG fi;rw[G];rfl
  clear G;go_wp2_with fail;refine(ae n).mono ?_;rintro e x3 ⟨Q,rfl⟩;refine⟨rfl,?_⟩;unfold TkP;rw[ae F];exact⟨(ae r).1.trans Q,rfl⟩
 .
  rw[G]at n;have aa:=BI G;have H1:=af G;have ba:=af aa.1;clear G aa;go_wp2_with fail;refine(ae n).mono ?_;rintro e x3 ⟨Q,rfl,r3⟩;have a0:=(ae r).1.trans Q;have a7:=(ae r).2.1.keep1 Q (ae J);have al:=p8 (ae r).2.2 Q z a3;have an:g<x3.heap.size:=a0i z Q.1.size;have c:=af (a0b a0 (a0b a7 (a0b al r3)));clear Q a0 a7 al r3 n r z;have m:Hid (∀W,aw b x3 W->W.rangeAt g 19 o.toList):=fun W h=>p8 (ae c).2.2.1 h an a3;have P:aw b x3 x3.drew:=(aw.refl b x3).drew;go_wp2_with fail;refine a0H (S:=fun W=>W.rangeAt g 19 o.toList) a2 (ae m _ P) (fun Y=>?_);refine ag 0 (.pointer (some ⟨b,0,none⟩)) rfl (by kernel_rfl) (fun _ _ _ h=>h) rfl (fun W Z=>by go_simp) Y ?_;refine ag 2 (.pointer (some ⟨b,0,none⟩)) rfl (by kernel_rfl) (fun _ _ _ h=>h) rfl (fun W Z=>by go_simp) Y ?_;refine ag 3 (.pointer (some ⟨g,19,none⟩)) rfl (by kernel_rfl) (fun _ _ _ h=>h) rfl (fun W Z=>by go_simp) Y ?_;refine a0Q (i:=4) (v:=.agg o) rfl (by kernel_rfl) (by kernel_rfl) (by kernel_rfl) (fun _ _ _ h=>h) (iG (by rfl) 182 (.tmp 25) rfl g 19 rfl o _ (fun _ h=>h) underlying182 rfl bs) Y ?_;refine ah 1 (by kernel_rfl) rfl fun K u=>?_;go_simp;go_at_call 213;refine(tw _).mono ?_;rintro e x4 ⟨rfl,b4⟩;have k4:aw b x3 x4:=P.later b4 (ae c).2.2.2.lt;have r4:Rdr x4 b s q1:=Rdr.kept (w:=x3.drew) (show Rdr x3.drew b s q1 from(ae c).2.2.2) (b4.mono (ae c).2.2.2.lt);have v4:=(ae c).2.1.keep1 k4 (ae J);have l:=af (xp b q1 base o D s x4 v4 (ae J) (ae U) (ae HS) r4 (ae ba));refine a0f u _ _ (ae m _ k4) (fun bb=>?_);clear u K b4 v4;refine ah 5 (by kernel_rfl) rfl fun K u=>?_;go_simp;go_at_call 288;unfold SyP at l;rcases h2:dec D (ai s) (8*s.size) q1 with _|⟨j,q2⟩
  .
   rw[h2]at l;have F:Hid (d=none):=by show d=none;rw[←ae Hd];unfold okG fi;rw[ae H1];simp only[a0g];rw[h2];rfl
   refine(ae l).mono ?_;rintro e x5 ⟨k5,rfl⟩;refine⟨rfl,?_⟩;unfold TkP;rw[ae F];exact⟨(ae c).1.trans (k4.trans k5),rfl⟩
  .
   rw[h2]at l;have ab:=eH h2;have H2:=af h2;refine(ae l).mono ?_;rintro e x5 ⟨k5,rfl,r5⟩;have H:=k4.trans k5;refine a0f u _ _ (ae m _ H) (fun bc=>?_);clear u K k5 k4 r4 l;obtain⟨jn,hj⟩:=a0r ab.2.2.1;subst hj;have A:jn<=1000:=by have:=bC (ae U);omega
   have a:=af (sR 1 2 30 b q2 jn s x5 r5 (ae HS) (by omega) (by omega) (by omega) (by omega) (fun k h=>by omega) A);refine ah 6 (by kernel_rfl) rfl fun K u=>?_;go_simp;go_at_call 287;unfold ig at a;rcases V:scG (ai s) (8*s.size) 1 2 30 jn q2 with _|⟨y,q3⟩
   .
    rw[V]at a;have F:Hid (d=none):=by show d=none;rw[←ae Hd];unfold okG fi;rw[ae H1];simp only[a0g];rw[ae H2];simp only[a0g,a0x];rw[V];rfl
    refine(ae a).mono ?_;rintro e x6 ⟨k6,rfl⟩;refine⟨rfl,?_⟩;unfold TkP;rw[ae F];exact⟨(ae c).1.trans (H.trans k6),rfl⟩
   .
    rw[V]at a;have H3:=af V;refine(ae a).mono ?_;rintro e x6 ⟨k6,rfl,r6⟩;have I:=H.trans k6;refine a0f u _ _ (ae m _ I) (fun bd=>?_);clear u K;refine ah 7 (by kernel_rfl) rfl fun K u=>?_;go_simp;refine a0f u _ _ (ae m _ I) (fun be=>?_);clear u K;refine a0u (by kernel_rfl) ?_ _;have HE:Hid (d=if okT (0,(x:Int),(y:Int))=true then some ((0,(x:Int),(y:Int)),q3)else none):=by
     show d=_;rw[←ae Hd];unfold okG fi;rw[ae H1];simp only[a0g];rw[ae H2];simp only[a0g,a0x];rw[ae H3];rfl
    have q:=af (a0b ((ae c).1.trans I) r6);have N:=af (fun W=>IR (0,(x:Int),(y:Int)) W);clear Y bb bc bd be I H k6 r6 r5 m P h2 V ab A a;simp only at N;go_wp2_with fail;refine(ae N _).mono ?_;rintro e x7 ⟨rfl,b7⟩;have M:=af (a0b ((ae q).1.later b7 (ae q).2.lt) ((ae q).2.kept (b7.mono (ae q).2.lt)));clear b7 q N;cases f:okT (0,(x:Int),(y:Int))
    .
     have F:Hid (d=none):=by show d=none;rw[ae HE,f];rfl
     clear f;generalize lm (0,(x:Int),(y:Int))=tv at *
     go_wp2_with fail;refine(er _).mono ?_;rintro e x8 ⟨rfl,E⟩;rw[E];clear E x8;refine⟨rfl,?_⟩;unfold TkP;rw[ae F];exact⟨(ae M).1,rfl⟩
    .
     have F:Hid (d=some ((0,(x:Int),(y:Int)),q3)):=by show d=_;rw[ae HE,f];rfl
     clear f;obtain⟨t,ht⟩:∃t:Tk,(0,(x:Int),(y:Int))=t:=⟨_,rfl⟩;rw[ht]at F ⊢;clear ht;generalize a5:lm t=tv at *
     have a9:=af a5;clear a5;go_wp2_with fail;refine(cG _).mono ?_;rintro e x8 ⟨rfl,E⟩;rw[E];clear E x8;go_wp2;go_ret;unfold TkP;rw[ae F];exact⟨(ae M).1,by rw[ae a9];rfl,(ae M).2⟩
theorem tT(b p:Nat)(s:ByteArray)(T:List UInt8)(w:World)(h:Sou w b s p T)(hT:T.length<=300)(hp:p<=8*s.size)(hs:s.size<=2000000) :
  Calls prog 246 #[.pointer (some ⟨b,0,none⟩)] w (cn w b s (dk (ai s) (8*s.size) p T)):=by
 obtain⟨d,hd⟩:∃d,dk (ai s) (8*s.size) p T=d:=⟨_,rfl⟩;rw[hd];have g:=af hd;have F:=af (ml b p s w h.1 hs hp);have HS:=af h;have Q:=af (a0b hs hT);clear h hT hp hs hd;go_enter func246,ntmps246;unfold dk at g;rcases G:fJ (ai s) p with _|q
 .
  rw[G]at F;have o:Hid (d=none):=by show d=none;rw[←ae g,G];rfl
  clear G g;go_wp2_with fail;refine(ae F).mono ?_;rintro e x1 ⟨M,rfl⟩;refine⟨rfl,?_⟩;unfold cn;rw[ae o];exact⟨M.ku,rfl⟩
 rw[G]at F g;clear G;simp only[a0g]at g;go_wp2_with fail;refine(ae F).mono ?_;rintro e x1 ⟨M,rfl,r1⟩;have m:=af (a0b M.ku ((ae HS).keep1 M r1));clear M r1 HS F;have f:=af (bD b q 16 s x1 (ae m).2.1 (ae Q).1 (by omega));rcases h2:rdN (ai s) (8*s.size) q 16 with _|⟨a,q2⟩
 .
  rw[h2]at f;unfold ig at f;have o:Hid (d=none):=by show d=none;rw[←ae g,h2];rfl
  clear h2 g;go_wp2_with fail;refine(ae f).mono ?_;rintro e x2 ⟨N,rfl⟩;refine⟨rfl,?_⟩;unfold cn;rw[ae o];exact⟨(ae m).1.trans N.ku,rfl⟩
 rw[h2]at f g;unfold ig at f;have ha:a<=65535:=by have:=(bh h2).2.2.2;omega
 clear h2;simp only[a0g]at g;go_wp2_with fail;refine(ae f).mono ?_;rintro e x2 ⟨N,rfl,r2⟩;have n:=af (a0b ((ae m).1.trans N.ku) ((ae m).2.keep1 N r2));clear N r2 m f;have f:=af (bD b q2 16 s x2 (ae n).2.1 (ae Q).1 (by omega));rcases B:rdN (ai s) (8*s.size) q2 16 with _|⟨c,q3⟩
 .
  rw[B]at f;unfold ig at f;have o:Hid (d=none):=by show d=none;rw[←ae g,B];rfl
  clear B g;go_wp2_with fail;refine(ae f).mono ?_;rintro e x3 ⟨O,rfl⟩;refine⟨rfl,?_⟩;unfold cn;rw[ae o];exact⟨(ae n).1.trans O.ku,rfl⟩
 rw[B]at f g;unfold ig at f;simp only[a0g]at g;go_wp2_with fail;refine(ae f).mono ?_;rintro e x3 ⟨O,rfl,r3⟩;have v:=af (a0b ((ae n).1.trans O.ku) ((ae n).2.keep1 O r3));clear O r3 n f;have U:bits .xor .i64 (a:Int) 65535=((65535-a:Nat):Int):=by
  rw[←Kg a ha];exact pR a 65535 (by omega) (by omega)
 by_cases r:c=65535-a
 .
  rw[a0e r]at g;have hb:((c:Int) == bits .xor .i64 (a:Int) 65535)=true:=by rw[U,r];exact beq_self_eq_true _
  clear B U r;go_wp2_with fail;refine(cG _).mono ?_;rintro e x4 ⟨rfl,t⟩;rw[t];clear t x4 hb;go_wp2_with fail
  go_loopw [14] (fun i wr=>∃(k q:Nat) (R:List UInt8),k<=a/\i = .int .i64 k/\KU b w wr/\Sou wr b s q R/\R.length<=300/\du (ai s) (8*s.size) (a-k) q R=d) (fun i _=>a-(intOf i).toNat)
  case atStart=>exact⟨0,q3,T,a0h _,rfl,(ae v).1,(ae v).2,(ae Q).2,ae g⟩
  case round=>
   obtain⟨k,q,R,hk,rfl,J,A,hR,hg⟩:=hrel;clear v g;have u:=af J;have x:=af A;have j:=af hg;have HR:=af hR;clear J A hg hR hk;by_cases Z:k<a
   .
    have K:(k:Int)<(a:Int):=by omega
    have e1:a-k=(a-(k+1))+1:=by omega
    have f:=af (bD b q 8 s wr (ae x).1 (ae Q).1 (by omega));rw[e1]at j;simp only[du]at j;clear e1;rcases H:rdN (ai s) (8*s.size) q 8 with _|⟨y,q4⟩
    .
     rw[H]at f j;unfold ig at f;have o:Hid (d=none):=by show d=none;rw[←ae j];rfl
     clear H j;go_wp2_with fail;refine(ae f).mono ?_;rintro e x5 ⟨P,rfl⟩;refine⟨rfl,?_⟩;unfold cn;rw[ae o];exact⟨(ae u).trans P.ku,rfl⟩
    rw[H]at f j;unfold ig at f;have hy:y<256:=by have:=(bh H).2.2.2;omega
    have hu:IntKind.u8.wrap (y:Int)=(y:Int):=vm (by omega) (by omega);have Y:isB (((y:Nat):Int),0,0)=true:=by unfold isB inB;simp;omega
    have L:okT (((y:Nat):Int),0,0)=true:=by unfold okT;rw[Y];rfl
    have E:=af (tg Y);clear H Y;simp only[a0g]at j;go_wp2_with fail;refine(ae f).mono ?_;rintro e x5 ⟨P,rfl,r5⟩;have l:=af ((ae u).trans P.ku);have z:=af ((ae x).keep1 P r5);clear P r5 f u x;have W:=af (Dd b q4 s R (((y:Nat):Int),0,0) x5 (ae z) (ae HR) L);rw[ae E]at W;clear L E;go_wp2_with fail;refine(ae W).mono ?_;intro e x6 I;unfold cn at I;rcases S:dT R (((y:Nat):Int),0,0)with _|R'
    .
     rw[S]at I j;obtain⟨V,rfl⟩:=I;have o:Hid (d=none):=by show d=none;rw[←ae j];rfl
     refine⟨rfl,?_⟩;unfold cn;rw[ae o];exact⟨(ae l).trans V,rfl⟩
    rw[S]at I j;obtain⟨V,rfl,s6⟩:=I;simp only[a0g]at j;have X:=af (np S);have C:=af ((ae l).trans V);have D:=af s6;clear V s6 S l z W HR;go_wp2_with fail;go_roundw
    case rel=>exact⟨k+1,q4,R',Z,by go_num,ae C,ae D,ae X,ae j⟩
    case measure=>simp[intOf];omega
   .
    have K:¬ (k:Int)<(a:Int):=by omega
    have e0:a-k=0:=by omega
    rw[e0]at j;simp only[du]at j;go_wp2
    go_end0
    unfold cn;rw[←ae j];exact⟨ae u,rfl,ae x⟩
 .
  rw[a0d r]at g;have hb:((c:Int) == bits .xor .i64 (a:Int) 65535)=false:=by rw[U,a03];omega
  have o:Hid (d=none):=by show d=none;rw[←ae g]
  clear g U r B;go_wp2_with fail;refine(er _).mono ?_;rintro e x4 ⟨rfl,t⟩;rw[t];clear t x4;refine⟨rfl,?_⟩;unfold cn;rw[ae o];exact⟨(ae v).1,rfl⟩
def p5(V sz:Nat)(L D:List Int)(k:Int)(q:Nat)(R:List UInt8):Option (List UInt8×Nat):=
 if k=256 then some (R,q)else(oneG V sz D k q).bind fun t=>(dT R t.1).bind fun T'=>gx V sz L D t.2 T'
theorem vf: gx V sz L D p T=(dec L V sz p).bind fun k=>p5 V sz L D k.1 k.2 T:=by
 rcases h:dec L V sz p with _|⟨i,q⟩
 . rw[vg h];rfl
 .
  simp only[a0g];unfold p5;by_cases a:i=256
  . subst a;rw[zB h,a0e rfl]
  . rw[vh h a,a0d a]
theorem Fo{k:Int}(b:k≠256)(h:okG (oneG V sz D k q)=none):p5 V sz L D k q R=none:=by
 unfold p5;rw[a0d b];unfold okG at h;rcases a:oneG V sz D k q with _|⟨t,r⟩
 . rfl
 .
  rw[a]at h;simp only[a0g]at h ⊢
  split at h
  . cases h
  . rw[Gt (Bool.eq_false_iff.2 (by assumption))];rfl
theorem Bt{k:Int}{r:Nat}{t:Tk}(b:k≠256)(h:okG (oneG V sz D k q)=some (t,r)):oneG V sz D k q=some (t,r)/\okT t=true/\p5 V sz L D k q R=(dT R t).bind fun T'=>gx V sz L D r T':=by
 unfold okG at h;rcases a:oneG V sz D k q with _|⟨t',c⟩
 . rw[a]at h;cases h
 .
  rw[a]at h;simp only[a0g]at h
  split at h
  . simp only[a0m,a0X]at h;obtain⟨rfl,rfl⟩:=h;refine⟨rfl,by assumption,?_⟩;unfold p5;rw[a0d b,a];rfl
  . cases h
theorem F5(b p base:Nat)(k:Int)(L D:List Int)(C:Array Value)(s:ByteArray)(w:World)(g:Rdr w b s p)(i:0<=k)(q:k<=1000)(l:k≠256)(c:eA w base L D C)(d:b<base)(f:ay D=true)(o:s.size<=2000000) :
  Calls prog 281 #[.pointer (some ⟨b,0,none⟩),.int .i64 k,.agg C] w (TkP w b s (okG (oneG (ai s) (8*s.size) D k p))):=by
 obtain⟨n,rfl⟩:=a0r i;by_cases h:n<256
 .
  have j:isB (((n:Nat):Int),0,0)=true:=by unfold isB inB;simp;omega
  have a:okT (((n:Nat):Int),0,0)=true:=by unfold okT;rw[j];rfl
  have e:okG (oneG (ai s) (8*s.size) D (n:Int) p)=some ((((n:Nat):Int),0,0),p):=by
   unfold oneG okG;rw[a0e (by omega)];simp only[a0g];rw[a0e a]
  rw[e];exact Cd b p n C s w g h
 .
  obtain⟨m,rfl⟩:∃m,n=m+257:=⟨n-257,by omega⟩;have e:oneG (ai s) (8*s.size) D ((m+257:Nat):Int) p=fi (ai s) (8*s.size) D m p:=by
   unfold oneG;rw[a0d (by omega)];rw[show(((m+257:Nat):Int).toNat-257)=m by omega]
  rw[e];exact Ce b p m base L D C s w g (by omega) c d f o
def jU(b:Nat)(w:World):Nat:=match w.cell? ⟨b,1,none⟩with
 | some v=>(intOf v).toNat
 | none=>0
theorem Sou.place(h:Sou w b s p T)(c:p<=8*s.size):jU b w=p:=by
 have a:=(h.1.at c).2.1;unfold jU;rw[a];simp[intOf]
theorem qn(h:w.heap[g]?=some (Obj.cells C t)):w.rangeAt g 0 C.toList:=by
 intro j v a;rw[a0B,kz h];simpa using a
theorem KU.books(h:KU b w w')(a:w.heap[g]?=some (Obj.cells C 184))(e:g≠b):w'.heap[g]?=some (Obj.cells C 184):=by
 have d:g<w.heap.size:=by
  rcases a1z g w.heap.size with c|c
  . exact c
  . rw[Array.getElem?_eq_none c]at a;cases a
 rw[h.2 g d e (by intro i fr f;rw[a]at f;simp at f)];exact a
def TkI(b g base:Nat)(s:ByteArray)(L D:List Int)(C:Array Value)(d:Option (List UInt8×Nat))(w:World)(i:Value)(wr:World):Prop:=
 ∃(k:Int) (q:Nat) (R:List UInt8),i = .int .i64 k/\0<=k/\k<=1000/\KU b w wr/\Sou wr b s q R/\R.length<=300/\q<=8*s.size/\wr.heap[g]?=some (Obj.cells C 184)/\eA wr base L D C/\p5 (ai s) (8*s.size) L D k q R=d
theorem ti(b p base:Nat)(s:ByteArray)(L D:List Int)(C:Array Value)(T:List UInt8)(w:World)(h:Sou w b s p T)(hT:T.length<=300)(hp:p<=8*s.size)(hs:s.size<=2000000)(X:eA w base L D C)(Z:b<base)(hL:ay L=true)(hD:ay D=true) :
  Calls prog 269 #[.pointer (some ⟨b,0,none⟩),.agg C] w (cn w b s (gx (ai s) (8*s.size) L D p T)):=by
 obtain⟨d,hd⟩:∃d,gx (ai s) (8*s.size) L D p T=d:=⟨_,rfl⟩;rw[hd];have hd:=vf.symm.trans hd;have a0:=h.lt;have A:w.heap.size≠b:=by omega
 have hA:Below w.heap.size w (w.alloc (.cells C 184)):=(a0c _ _).alloc (a0a _) _;have Y:=h.later hA;have V:=X.later hA;have x:KU b w (w.alloc (.cells C 184)):=(KU.refl b w).later hA a0;have v:=alloc_at w (.cells C 184);have m:=af (a0b hs (a0b Z (a0b hL hD)));have HT:=af hT;have P:=af (bC hL);obtain⟨j,C2,rfl,b1,b2⟩:=X;have z:=b1.size;have ab:=b2.size;have M:=af (a0b z (show(j++C2).size=38 by rw[a28,z,ab]));have F:Hid (∀W:World,W.heap[w.heap.size]?=some (Obj.cells (j++C2) 184)->W.rangeAt w.heap.size 0 j.toList):=fun W h=>(pJ h z).1;have O:Hid (∀W,eA W base L D (j++C2)->bE W base L j):=by
  intro W hW;obtain⟨E1,E2,e,f1,f2⟩:=hW;have:=f1.size;have e1:j=E1:=by
   have E:=congrArg Array.toList e;simp only[a1B]at E;have h2:=a2d E (by simp[z,this]);exact Array.ext' h2.1
  rw[e1];exact f1
 clear b1 b2 h Z hL hD hT z ab hs;generalize hC:j++C2=C at *
 go_enter func269,ntmps269;have f:=af (a0b x (a0b Y (a0b V v)));clear x Y V v hA;have c:=af (sf b p base j L s (w.alloc (.cells C 184)) (ae O _ (ae f).2.2.1) (ae m).2.1 (ae m).2.2.1 (ae m).1 (ae f).2.1.1 hp);clear hp;unfold SyP at c;rcases E:dec L (ai s) (8*s.size) p with _|⟨k,q⟩
 .
  rw[E]at c hd;have H:Hid (d=none):=by show d=none;rw[←hd];rfl
  clear E hd;go_wp2_with (refine bv rfl 179 (.tmp 6) rfl w.heap.size 0 rfl j _ (ae F _ (ae f).2.2.2) a3d rfl (by rw[(ae M).1];exact Tryz.infoLitB) ?_);refine(ae c).mono ?_;rintro e x1 ⟨B,rfl⟩;refine⟨rfl,?_⟩;unfold cn;rw[ae H];exact⟨(ae f).1.trans B.ku,rfl⟩
 rw[E]at c hd;have hb:=eH E;clear E;simp only[a0g]at hd;go_wp2_with (refine bv rfl 179 (.tmp 6) rfl w.heap.size 0 rfl j _ (ae F _ (ae f).2.2.2) a3d rfl (by rw[(ae M).1];exact Tryz.infoLitB) ?_);refine(ae c).mono ?_;rintro e x1 ⟨B,rfl,r1⟩;have HI:Hid (TkI b w.heap.size base s L D C d w (.int .i64 k) x1):=
  ⟨k,q,T,rfl,hb.2.2.1,by have:=ae P;omega,(ae f).1.trans B.ku,(ae f).2.1.keep1 B r1,ae HT,hb.1,B.ku.books (ae f).2.2.2 A,(ae f).2.2.1.keep1 B (ae m).2.1,hd⟩
 clear B r1 c hb hd f HT;go_wp2_with fail
 go_loopw [4] (fun i wr=>TkI b w.heap.size base s L D C d w i wr) (fun _ wr=>8*s.size-jU b wr)
 case atStart=>exact ae HI
 case round=>
  obtain⟨k,q,R,rfl,k0,B,x,y,hR,hq,v,aa,hn⟩:=hrel;clear HI;have f:=af (a0b x (a0b y (a0b hR (a0b hq (a0b v aa)))));have a:=af hn;have ad:=af (y.place hq);clear x y hR hq v aa hn;by_cases hk:k=256
  .
   subst hk;go_wp2
   go_end0
   unfold cn;rw[←ae a];unfold p5;rw[a0e rfl];exact⟨(ae f).1,rfl,(ae f).2.1⟩
  have a1:(k == 256)=false:=by rw[a03];exact hk
  have n:=af (F5 b q base k L D C s wr (ae f).2.1.1 k0 B hk (ae f).2.2.2.2.2 (ae m).2.1 (ae m).2.2.2 (ae m).1);have G:=af (qn (ae f).2.2.2.2.1);unfold TkP at n;rcases h2:okG (oneG (ai s) (8*s.size) D k q)with _|⟨t,r⟩
  .
   rw[h2]at n;have H:Hid (d=none):=by show d=none;rw[←ae a];exact Fo hk h2
   clear h2;go_wp2_with (refine bv rfl 184 (.tmp 3) rfl w.heap.size 0 rfl C _ (ae G) underlying184 rfl (by rw[(ae M).2];exact Tryz.infoBooks) ?_);refine(ae n).mono ?_;rintro e x2 ⟨J,rfl⟩;refine⟨rfl,?_⟩;unfold cn;rw[ae H];exact⟨(ae f).1.trans J.ku,rfl⟩
  rw[h2]at n;obtain⟨n1,n2,n3⟩:=Bt (L:=L) (R:=R) hk h2;have Q:=af (qP n1 (ae f).2.2.2.1);rw[n3]at a;have ao:=af n2;clear h2 n1 n2 n3;go_wp2_with (refine bv rfl 184 (.tmp 3) rfl w.heap.size 0 rfl C _ (ae G) underlying184 rfl (by rw[(ae M).2];exact Tryz.infoBooks) ?_);refine(ae n).mono ?_;rintro e x2 ⟨J,rfl,r2⟩;have o:=af (a0b ((ae f).1.trans J.ku) (a0b ((ae f).2.1.keep1 J r2) (a0b (J.ku.books (ae f).2.2.2.2.1 A) ((ae f).2.2.2.2.2.keep1 J (ae m).2.1))));have an:=af (a0b (ae f).2.2.1 (ae f).2.2.2.1);clear J r2 n f G;have l:=af (Dd b r s R t x2 (ae o).2.1 (ae an).1 (ae ao));generalize lm t=tv at *
  unfold cn at l;rcases S:dT R t with _|R'
  .
   rw[S]at l a;have H:Hid (d=none):=by show d=none;rw[←ae a];rfl
   clear S;go_wp2_with fail;refine(ae l).mono ?_;rintro e x3 ⟨N,rfl⟩;refine⟨rfl,?_⟩;unfold cn;rw[ae H];exact⟨(ae o).1.trans N,rfl⟩
  rw[S]at l a;have al:=af (np S);clear S;simp only[a0g]at a;rw[vf]at a;go_wp2_with fail;refine(ae l).mono ?_;rintro e x3 ⟨N,rfl,s3⟩;have g:=af (a0b ((ae o).1.trans N) (a0b s3 (a0b (N.books (ae o).2.2.1 A) ((ae o).2.2.2.ku N (ae m).2.1))));clear N s3 l o;have c:=af (sf b r base j L s x3 (ae O _ (ae g).2.2.2) (ae m).2.1 (ae m).2.2.1 (ae m).1 (ae g).2.1.1 (ae Q).1);have u:=af (ae F _ (ae g).2.2.1);unfold SyP at c;rcases U:dec L (ai s) (8*s.size) r with _|⟨k',q'⟩
  .
   rw[U]at c a;have H:Hid (d=none):=by show d=none;rw[←ae a];rfl
   clear U;go_wp2_with (refine bv rfl 179 (.tmp 12) rfl w.heap.size 0 rfl j _ (ae u) a3d rfl (by rw[(ae M).1];exact Tryz.infoLitB) ?_);refine(ae c).mono ?_;rintro e x4 ⟨K,rfl⟩;refine⟨rfl,?_⟩;unfold cn;rw[ae H];exact⟨(ae g).1.trans K.ku,rfl⟩
  rw[U]at c a;have hb:=eH U;clear U;simp only[a0g]at a;go_wp2_with (refine bv rfl 179 (.tmp 12) rfl w.heap.size 0 rfl j _ (ae u) a3d rfl (by rw[(ae M).1];exact Tryz.infoLitB) ?_);refine(ae c).mono ?_;rintro e x4 ⟨K,rfl,r4⟩;have I:=(ae g).2.1.keep1 K r4;have ac:=af (I.place hb.1);have HI:Hid (TkI b w.heap.size base s L D C d w (.int .i64 k') x4):=
   ⟨k',q',R',rfl,hb.2.2.1,by have:=ae P;omega,(ae g).1.trans K.ku,I,ae al,hb.1,K.ku.books (ae g).2.2.1 A,(ae g).2.2.2.keep1 K (ae m).2.1,ae a⟩
  have Hm:Hid (q<q'/\q'<=8*s.size):=⟨by have:=ae Q;omega,hb.1⟩;clear K r4 I hb c u g;go_wp2_with fail;go_roundw
  case rel=>exact ae HI
  case measure=>rw[ae ac,ae ad];have:=ae Hm;omega
theorem fP.below(h:fP w)(hb:Below B w w')(a:1<B):fP w':=
 ⟨fun j v b=>(hb.cell (p:=⟨1,0+j,none⟩) a).trans (h.1 j v b),a0i h.2 hb.size⟩
theorem fP.cell(h:fP w)(a:k<19):w.cell? ⟨1,k,none⟩=some (.int .i64 (bS.getD k 0:Nat)):=by
 have:=h.1 k (.int .i64 (bS.getD k 0:Nat)) (by rw[Array.getElem?_toList];exact yH k a);rwa[a0B]at this
theorem yM{m:Nat}(h:k<m)(b:m<=19):(bS.take m).drop k=bS.getD k 0 :: (bS.take m).drop (k+1):=by
 have a:k<(bS.take m).length:=by rw[a0t];have:bS.length=19:=rfl;omega
 rw[a3q a]
 congr 1
 have h2:k<bS.length:=by have:bS.length=19:=rfl;omega
 simp[List.getD,h2]
def LbP(w:World)(b:Nat)(s:ByteArray)(d:Option (List Int×Nat))(e:Ending)(w':World):Prop:=
 aw b w w'/\match d with
  | none=>e=iY
  | some (l,q)=>(∃C,e = .returned (.agg C)/\bE w' w.heap.size l C)/\Rdr w' b s q
theorem aw.set(h:aw b w x)(d:w.heap.size<=g)(hb:b<w.heap.size)(u:Value):aw b w (x.setCell ⟨g,o,none⟩ u):=
 ⟨ap h.1 (by omega) u,fun j a c=>(a0T _ _ _ j (by show j≠g;omega)).trans (h.2 j a c),fun j a=>⟨by rw[World.cell?_setCell_other _ _ _ _ (by simp only[ne_eq,a0F];omega)];exact(h.3 j a).1,by simpa using(h.3 j a).2⟩⟩
theorem aw.setCells(h:aw b w x)(i:w.heap.size<=g)(hb:b<w.heap.size)(o:Nat)(us:List Value):aw b w (x.setCells g o us):=by
 have e:∀j,j≠g->(x.setCells g o us).heap[j]?=x.heap[j]?:=fun j c=>cZ _ _ _ _ j c;refine⟨below_setCells (by omega) _ _ _ h.1,fun j c d=>(e j (by omega)).trans (h.2 j c d),fun j c=>?_⟩;have f:=e b (by omega);exact⟨(World.cell?_of_block (w:=x) f (a:=⟨b,j,none⟩)).trans (h.3 j c).1,by rw[World.frozen?_setCells];exact(h.3 j c).2⟩
theorem Rdr.set(h:Rdr x b s p)(a:g≠b)(u:Value):Rdr (x.setCell ⟨g,o,none⟩ u) b s p:=by
 obtain⟨c0,c1,c2,g0,g1,g2,hb⟩:=h;exact⟨by rw[World.cell?_setCell_other _ _ _ _ (by simp only[ne_eq,a0F];omega)];exact c0,by rw[World.cell?_setCell_other _ _ _ _ (by simp only[ne_eq,a0F];omega)];exact c1,by rw[World.cell?_setCell_other _ _ _ _ (by simp only[ne_eq,a0F];omega)];exact c2,by simpa using g0,by simpa using g1,by simpa using g2,by simpa using hb⟩
theorem zv(h:w.there g 0 n)(i:aw b w w')(e:g<w.heap.size)(c:g≠b):w'.there g 0 n:=fun j f=>by
 obtain⟨t1,t2⟩:=h j f;have d:=i.2 g e c;exact⟨by rw[World.cell?_of_block (w:=w) d (a:=⟨g,0+j,none⟩)];exact t1,by rw[World.frozen?_of_block (w:=w) d (a:=⟨g,0+j,none⟩)];exact t2⟩
theorem ax.keep1'{base:Nat}(h:ax w base v l)(a:aw b w w')(hb:b<base):ax w' base v l:=a.own h hb
def LbI(b gL many:Nat)(s:ByteArray)(d:Option (List Int×Nat))(w:World)(i:Value)(wr:World):Prop:=
 ∃(k q:Nat) (l:List Int),i = .int .i64 k/\k<=many/\aw b w wr/\Rdr wr b s q/\q<=8*s.size/\ax wr (w.heap.size+1) (.slice (some ⟨gL,0,none⟩) 19 19) l/\l.length=19/\wr.there w.heap.size 0 19/\fP wr/\w.heap.size<wr.heap.size/\lbG (ai s) (8*s.size) ((bS.take many).drop k) q l=d
theorem wu(b p many:Nat)(s:ByteArray)(w:World)(h:Rdr w b s p)(hp:p<=8*s.size)(hs:s.size<=2000000)(hm:many<=19)(D:fP w)(hb:1<b) :
  Calls prog 271 #[.pointer (some ⟨b,0,none⟩),.int .i64 (many:Nat)] w (LbP w b s (iy (ai s) (8*s.size) many p)):=by
 have al:prog.follows .mixedOrders=true:=by kernel_rfl
 obtain⟨i0,hi,an,ao,a0⟩:=a0s Tryz.infoInt;obtain⟨d,hd⟩:∃d,lbG (ai s) (8*s.size) (bS.take many) p (List.replicate 19 0)=d:=⟨_,rfl⟩;unfold iy;rw[hd];have f:=h.lt;have a5:(many:Int)<=19:=by omega
 obtain⟨W0,hW0⟩:∃W,w.alloc (.cells oz 259)=W:=⟨_,rfl⟩;have S0:W0.heap.size=w.heap.size+1:=by rw[←hW0];exact dt _ _
 have B0:Below w.heap.size w W0:=by rw[←hW0];exact(a0c _ _).alloc (a0a _) _
 have T0:W0.there w.heap.size 0 19:=by rw[←hW0];exact jw w oz _ _ rfl
 have c:=af (a0b h (a0b hp (a0b D (a0b B0 (a0b T0 S0)))));have y:=af (a0b hs (a0b hm (a0b hb f)));have HD:=af hd;have E0:=af hW0;unfold oz at E0;clear h hp hs hm D hb f hd hW0 B0 T0 S0;go_enter func271,ntmps271;go_wp2_with (at_make;refine a2a _ rfl _ _ 146 rfl (w.heap.size+1) 3 i0 (.int .i64 0) 1 a0L hi an ao .i64 .i64 _ _ 19 rfl rfl rfl rfl (by rw[a0];omega) (by unfold maxLen;omega) (by simp) ?_;intro w1 n m);rw[ae E0]at n m;rw[(ae c).2.2.2.2.2]at n;have Z:ax w1 (w.heap.size+1) (.slice (some ⟨w.heap.size+1,0,none⟩) 19 19) (List.replicate 19 0):=eq n;have A:Below (w.heap.size+1) W0 w1:=(a0c _ _).grown m (by rw[(ae c).2.2.2.2.2];exact a0a _) (fun k h=>by cases h);clear n m hi an ao a0 E0;have HI:Hid (LbI b (w.heap.size+1) many s d w (.int .i64 (0:Nat)) w1):=by
  obtain⟨h,hp,D,B0,T0,S0⟩:=ae c;have f:=(ae y).2.2.2;have bb:Below w.heap.size w w1:=B0.trans (A.mono (a1k _));refine⟨0,p,List.replicate 19 0,rfl,a0h _,(aw.refl b w).later bb f,h.kept (bb.mono f),hp,Z,by simp,?_,D.later bb,by have:=A.size;omega,ae HD⟩;intro j N;obtain⟨t1,t2⟩:=T0 j N;exact⟨by rw[A.cell (p:=⟨w.heap.size,0+j,none⟩) (a0l _)];exact t1,by rw[A.frozen (p:=⟨w.heap.size,0+j,none⟩) (a0l _)];exact t2⟩
 clear c HD Z A
 go_loopw [6,9] (fun _ i wr=>LbI b (w.heap.size+1) many s d w i wr) (fun _ i _=>many-(intOf i).toNat)
 case atStart=>exact ae HI
 case round=>
  obtain⟨k,q,l,rfl,hk,E,O,hq,ho,U,G,D,F,hd⟩:=hrel;clear HI;have a3:w.heap.size+1≠b:=by have:=(ae y).2.2.2;omega
  by_cases ad:k<many
  .
   have a2:(k:Int)<(many:Int):=by omega
   have H:k<19:=by have:=(ae y).2.1;omega
   have a4:=Bu k H;rw[yM ad (ae y).2.1]at hd;simp only[lbG]at hd;have Q:=af (bD b q 3 s wr.drew (show Rdr wr.drew b s q from O) (ae y).1 (by omega));have c:=af (a0b E (a0b O (a0b hq (a0b ho (a0b U (a0b G (a0b D F)))))));have J:Hid (∀W,aw b wr.drew W->W.cell? ⟨1,k,none⟩=some (.int .i64 (bS.getD k 0:Nat))):=fun W h=>(fP.below (w:=wr.drew) (show fP wr.drew from D) h.1 (ae y).2.2.1).cell H;have u:=af hd;clear E O hq ho U G D F hk hd;generalize bS.getD k 0=o at *
   have a6:(o:Int)<19:=by omega
   go_wp2_with fail;refine a0H (S:=fun W=>W.cell? ⟨1,k,none⟩=some (.int .i64 (o:Nat))) al (ae J _ (aw.refl _ _)) (fun T=>?_);refine ag 0 (.slice (some ⟨w.heap.size+1,0,none⟩) 19 19) rfl (by kernel_rfl) (fun _ _ _ h=>h) rfl (fun W z=>by go_simp) T ?_;refine ag 1 (.int .i64 (k:Nat)) rfl (by kernel_rfl) (fun _ _ _ h=>h) rfl (fun W z=>by go_simp) T ?_;refine ag 2 (.pointer (some ⟨1,k,none⟩)) rfl (by kernel_rfl) (fun _ _ _ h=>h) rfl (fun W z=>by go_simp<;>(intro h;omega)) T ?_;refine ag 3 (.int .i64 (o:Nat)) rfl (by kernel_rfl) (fun _ _ _ h=>h) rfl (fun W z=>by go_simp) T ?_;refine ag 4 (.pointer (some ⟨b,0,none⟩)) rfl (by kernel_rfl) (fun _ _ _ h=>h) rfl (fun W z=>by go_simp) T ?_;refine ah 5 (by kernel_rfl) rfl fun K Y=>?_;go_simp;go_at_call 249;unfold ig at Q;rcases h1:rdN (ai s) (8*s.size) q 3 with _|⟨x,q1⟩
   .
    rw[h1]at Q u;have Hn:Hid (d=none):=by show d=none;rw[←ae u];rfl
    refine(ae Q).mono ?_;rintro e x1 ⟨P,rfl⟩;refine⟨rfl,?_⟩;unfold LbP;rw[ae Hn];exact⟨(ae c).1.trans ((aw.refl b wr).drew.trans P),rfl⟩
   .
    rw[h1]at Q u;simp only[a0g]at u;have a1:=af (bh h1);clear h1;refine(ae Q).mono ?_;rintro e x1 ⟨P,rfl,r1⟩;refine a0f Y _ _ (ae J _ P) (fun M=>?_);clear Y K;have t:aw b wr x1:=(aw.refl b wr).drew.trans P;have f:=(ae y).2.2.2;have o1:=(ae c).2.2.2.1.keep1' t (by omega);obtain⟨c1,f1,_,_⟩:=o1.at (ae c).2.2.2.2.1 a4;refine a0Q (i:=6) (v:=.pointer (some ⟨w.heap.size+1,o,none⟩)) rfl (by kernel_rfl) (by kernel_rfl) (by kernel_rfl) (fun _ _ _ h=>h) (a0I ⟨by rfl,fun W z=>by go_simp<;>(intro h;omega)⟩) M ?_;refine ah 7 (by kernel_rfl) rfl fun K Y=>?_;go_simp;have ab:w.heap.size<wr.heap.size:=(ae c).2.2.2.2.2.2.2;have th1:=zv (ae c).2.2.2.2.2.1 t ab (by omega);have HI:Hid (LbI b (w.heap.size+1) many s d w (.int .i64 (k+1:Nat)) (x1.setCell ⟨w.heap.size+1,o,none⟩ (.int .i64 (x:Nat)))):=by
     refine⟨k+1,q1,l.set o (x:Nat),rfl,ad,((ae c).1.trans t).set (by omega) f _,r1.set a3 _,(ae a1).1,o1.put (ae c).2.2.2.2.1 _,by rw[a16];exact(ae c).2.2.2.2.1,?_,?_,by simp;exact a0i ab t.1.size,ae u⟩
     . intro j N;obtain⟨t1,t2⟩:=th1 j N;exact⟨by rw[World.cell?_setCell_other _ _ _ _ (by simp)];exact t1,by simpa using t2⟩
     . exact((ae c).2.2.2.2.2.2.1.below t.1 (ae y).2.2.1).below (ap (a0c b x1) (by omega) _) (ae y).2.2.1
    have aa:(x1.setCell ⟨w.heap.size+1,o,none⟩ (.int .i64 (x:Nat))).cell? ⟨1,k,none⟩=some (.int .i64 (o:Nat)):=by
     rw[World.cell?_setCell_other _ _ _ _ (by simp only[ne_eq,a0F];have:=(ae y).2.2.1;omega)];exact M
    refine a0f Y _ _ aa (fun _=>?_);clear Y K;refine a0u (by kernel_rfl) ?_ _;clear T M aa P t r1 o1 th1 J Q c c1 f1;generalize x1.setCell ⟨w.heap.size+1,o,none⟩ (.int .i64 (x:Nat))=x2 at *
    go_wp2_with fail;go_roundw
    case rel=>exact ae HI
    case measure=>simp[intOf];omega
  .
   have a2:¬ (k:Int)<(many:Int):=by omega
   have e0:(bS.take many).drop k=[]:=a3T (by rw[a0t];omega);rw[e0]at hd;simp only[lbG]at hd;have HE:=af hd;have f:=(ae y).2.2.2;have HJ:=af (bU U (ho.own U));have g:=af (ES _ 19 19 (w.heap.size+1) l wr U (ae HJ) (by omega) (by omega));have c:=af (a0b E (a0b O (a0b G F)));clear E O hq ho U G D F hk e0;cases r:ay l
   . rw[r]at g;simp only[a1e,a1f]at g;have I:=af r;clear r hd;go_wp2_with fail;refine(ae g).mono ?_;rintro e x1 ⟨L,rfl⟩;refine⟨rfl,?_⟩;unfold LbP;rw[←ae HE];simp only[a0g];rw[ae I];exact⟨(ae c).1.later L (ae c).2.1.lt,rfl⟩
   .
    rw[r]at g;simp only[a09]at g;have I:=af r;clear r hd;go_wp2_with fail;refine(ae g).mono ?_;rintro e x1 ⟨L,C,rfl,R⟩;have X:Hid (x1.there w.heap.size 0 19):=fun j N=>by
     obtain⟨t1,t2⟩:=(ae c).2.2.1 j N;have f:=(ae c).2.2.2;exact⟨by rw[L.cell (p:=⟨w.heap.size,0+j,none⟩) f];exact t1,by rw[L.frozen (p:=⟨w.heap.size,0+j,none⟩) f];exact t2⟩
    have B:=af R.size;have V:=af R.one;have HY:=af (a0b ((ae c).1.later L (ae c).2.1.lt) (a0b ((ae c).2.1.kept (L.mono (ae c).2.1.lt)) R));clear L R g HJ c;go_wp2_with (refine a3N rfl 259 (.tmp 4) (.tmp 21) rfl w.heap.size 0 C rfl rfl (by rw[ae B];exact ae X) (by rw[ae B];exact Tryz.infoLenB) (ae V) ?_);obtain⟨P,r1,R⟩:=ae HY;have O:=a3O x1 w.heap.size 0 C.toList (by rw[a2n,ae B];exact ae X);have hk:∀j,j≠w.heap.size->(x1.setCells w.heap.size 0 C.toList).heap[j]?=x1.heap[j]?:=fun j N=>cZ _ _ _ _ j N;have hz:(x1.setCells w.heap.size 0 C.toList).heap.size=x1.heap.size:=size_setCells _ _ _ _;refine a0R (ew rfl _ _ w.heap.size _ _ rfl O a3P rfl (by rw[a2n,ae B];exact Tryz.infoLenB)) rfl ?_;unfold LbP;rw[←ae HE];simp only[a0g];rw[ae I];refine⟨P.setCells (a0a _) f _ _,⟨C,by simp,(R.touch hz hk (a0l _)).mono (a1k _)⟩,?_⟩;obtain⟨c0,c1,c2,g0,g1,g2,hb⟩:=r1;have ac:=hk b (by omega);have hc:∀j,(x1.setCells w.heap.size 0 C.toList).cell? ⟨b,j,none⟩=x1.cell? ⟨b,j,none⟩:=fun j=>World.cell?_of_block (w:=x1) ac (a:=⟨b,j,none⟩);have hf:∀j,(x1.setCells w.heap.size 0 C.toList).frozen? ⟨b,j,none⟩=x1.frozen? ⟨b,j,none⟩:=fun j=>World.frozen?_of_block (w:=x1) ac (a:=⟨b,j,none⟩);exact⟨(hc 0).trans c0,(hc 1).trans c1,(hc 2).trans c2,(hf 0).trans g0,(hf 1).trans g1,(hf 2).trans g2,by rw[hz];exact hb⟩
theorem Rdr.place(h:Rdr w b s p)(c:p<=8*s.size):jU b w=p:=by
 have a:=(h.at c).2.1;unfold jU;rw[a];simp[intOf]
theorem aw.book(h:aw b w w')(c:w.heap[g]?=some (Obj.cells C t))(e:g≠b):w'.heap[g]?=some (Obj.cells C t):=by
 have d:g<w.heap.size:=by
  rcases a1z g w.heap.size with a|a
  . exact a
  . rw[Array.getElem?_eq_none a]at c;cases c
 rw[h.2 g d e];exact c
theorem rF{base:Nat}{y:Int}(a:l.length=n)(h:x.ownsRow base 3 1 v (n+k) (l.map (Value.int .i64)++List.replicate k (.int .i64 y))):ax x base v (l++List.replicate k y):=by
 show World.ownsRow _ _ _ _ _ (l++List.replicate k y).length _;rw[a0o,a0A,a,a1d,List.map_replicate];exact h
theorem Rdr.block(h:Rdr x b s p)(e:x'.heap[b]?=x.heap[b]?)(f:x.heap.size<=x'.heap.size):Rdr x' b s p:=by
 obtain⟨c0,c1,c2,g0,g1,g2,hb⟩:=h;have c:∀j,x'.cell? ⟨b,j,none⟩=x.cell? ⟨b,j,none⟩:=fun j=>World.cell?_of_block (w:=x) e (a:=⟨b,j,none⟩);have d:∀j,x'.frozen? ⟨b,j,none⟩=x.frozen? ⟨b,j,none⟩:=fun j=>World.frozen?_of_block (w:=x) e (a:=⟨b,j,none⟩);exact⟨(c 0).trans c0,(c 1).trans c1,(c 2).trans c2,(d 0).trans g0,(d 1).trans g1,(d 2).trans g2,by omega⟩
theorem xI{xs:List Value}(g:aw b w x)(l:x.ownsRow (w.heap.size+1) t 1 v n xs)(i:x.grownBy x' v.ownBlock)(hb:b<w.heap.size) :
  aw b w x'/\∀j,j<=w.heap.size->j<x.heap.size->x'.heap[j]?=x.heap[j]?:=by
 have d:∀j,j<=w.heap.size->some j≠v.ownBlock:=fun j c e=>by
  have:=(a0p l j e.symm).1;omega
 have m:=g.1.size;have f:=i.block b (by omega) (d b (by omega));refine⟨⟨g.1.grown i (by omega) (fun k h=>by have:=(a0p l k h).1;omega),fun j c h=>(i.block j (by omega) (d j (by omega))).trans (g.2 j c h),fun j c=>⟨(World.cell?_of_block (w:=x) f (a:=⟨b,j,none⟩)).trans (g.3 j c).1,(World.frozen?_of_block (w:=x) f (a:=⟨b,j,none⟩)).trans (g.3 j c).2⟩⟩,fun j c h=>i.block j h (d j c)⟩
def LnP(w:World)(b:Nat)(s:ByteArray)(d:Option (List Int×Nat))(e:Ending)(w':World):Prop:=
 aw b w w'/\match d with
  | none=>e=iY
  | some (l,q)=>(∃v,e = .returned v/\ax w' w.heap.size v l)/\Rdr w' b s q
def LnI(b many:Nat)(s:ByteArray)(B:List Int)(C:Array Value)(d:Option (List Int×Nat))(w:World)(v:Value)(wr:World):Prop:=
 ∃(q:Nat) (A:List Int),ax wr (w.heap.size+1) v A/\A.length<=600/\aw b w wr/\Rdr wr b s q/\q<=8*s.size/\wr.heap[w.heap.size]?=some (Obj.cells C 259)/\w.heap.size<wr.heap.size/\lnG (ai s) (8*s.size) B many q A=d
def LnS(b:Nat)(s:ByteArray)(C:Array Value)(w x:World)(v:Value)(A:List Int)(q:Nat):Prop:=
 ax x (w.heap.size+1) v A/\aw b w x/\Rdr x b s q/\q<=8*s.size/\x.heap[w.heap.size]?=some (Obj.cells C 259)/\w.heap.size<x.heap.size
theorem LnS.keep(h:LnS b s C w x v A q)(hb:b<w.heap.size)(a:aw b x x')(f:Rdr x' b s q')(hq:q'<=8*s.size):LnS b s C w x' v A q':=by
 obtain⟨c,h2,g,i,d,e⟩:=h;exact⟨c.keep1' a (by omega),h2.trans a,f,hq,a.book d (by omega),a0i e a.1.size⟩
theorem LnS.below(h:LnS b s C w x v A q)(hb:b<w.heap.size)(a:Below x.heap.size x x'):LnS b s C w x' v A q:=by
 have h2:=h.2.2.1.lt;exact h.keep hb ((aw.refl b x).later a h2) (h.2.2.1.kept (a.mono h2)) h.2.2.2.1
theorem LnS.grown{A':List Int}(h:LnS b s C w x v A q)(hb:b<w.heap.size)(a:x.grownBy x' v.ownBlock)(i:ax x' (w.heap.size+1) v' A'):LnS b s C w x' v' A' q:=by
 obtain⟨e,h2,c,f,g,d⟩:=h;obtain⟨g1,g2⟩:=xI h2 e a hb;exact⟨i,g1,c.block (g2 b (by omega) c.lt) a.size,f,(g2 _ (a0a _) d).trans g,a0i d a.size⟩
theorem LnS.done{many:Nat}{B:List Int}{d:Option (List Int×Nat)}(h:LnS b s C w x v A q)(a:A.length<=600)(hd:lnG (ai s) (8*s.size) B many q A=d):LnI b many s B C d w v x:=
 ⟨q,A,h.1,a,h.2.1,h.2.2.1,h.2.2.2.1,h.2.2.2.2.1,h.2.2.2.2.2,hd⟩
theorem ww(b p many base:Nat)(s:ByteArray)(B:List Int)(C:Array Value)(w:World)(h:Rdr w b s p)(hp:p<=8*s.size)(hs:s.size<=2000000)(hm:many<=400)(hB:bE w base B C)(a9:b<base)(b2:ay B=true) :
  Calls prog 270 #[.pointer (some ⟨b,0,none⟩),.int .i64 (many:Nat),.agg C] w (LnP w b s (lnG (ai s) (8*s.size) B many p [])):=by
 have bs:prog.follows .mixedOrders=true:=by kernel_rfl
 obtain⟨i0,hi,a2,a3,a4⟩:=a0s Tryz.infoInt;obtain⟨d,hd⟩:∃d,lnG (ai s) (8*s.size) B many p []=d:=⟨_,rfl⟩;rw[hd];have a1:=h.lt;have ct:(many:Int)<=400:=by omega
 have HI:Hid (LnI b many s B C d w (.slice none 0 0) (w.alloc (.cells C 259))):=
  ⟨p,[],ax.nil _ _,by simp,(aw.refl b w).alloc a1 _,h.alloc _,hp,alloc_at _ _,by simp,hd⟩
 have N:=af (a0b hs (a0b a9 (a0b b2 a1)));have HZ:=af hB.size;have b4:Hid (∀W,aw b w W->bE W base B C):=fun W hW=>hB.keep1 hW a9;clear h hp hs hm hB a9 b2 hd a1;go_enter func270,ntmps270;go_wp2_with fail
 go_loopw [7,8] (fun v _ wr=>LnI b many s B C d w v wr) (fun _ _ wr=>8*s.size-jU b wr)
 case atStart=>exact ae HI
 case round=>
  obtain⟨q,A,ho,hA,a0,hr,hq,ao,bc,hd⟩:=hrel;clear HI;obtain⟨n,hn⟩:∃n,A.length=n:=⟨_,rfl⟩;obtain⟨a,cap,rfl⟩:=ho.formN hn;have a1:=(ae N).2.2.2;have cm:w.heap.size≠b:=by omega
  have ac:=af (hr.place hq);have HX:=af (a0b ho (a0b a0 (a0b hr (a0b hq (a0b ao bc)))));have cy:(n:Int)<=600:=by omega
  have F:=af hn;by_cases c5:n<many
  .
   have b1:(n:Int)<(many:Int):=by omega
   rw[ym hq (by omega)]at hd;have T:=af (Bj b q base C B s wr (ae b4 _ a0) (ae N).2.1 (ae N).2.2.1 (ae N).1 hr hq);have a5:=af (qn ao);clear ho a0 hr hq ao bc hn hA;unfold SyP at T;rcases h1:dec B (ai s) (8*s.size) q with _|⟨k,Q⟩
   .
    rw[h1]at T hd;have Hn:Hid (d=none):=by show d=none;rw[←hd];rfl
    clear h1 hd;go_wp2_with (refine bv rfl 259 (.tmp 5) rfl w.heap.size 0 rfl C _ (ae a5) a3P rfl (by rw[ae HZ];exact Tryz.infoLenB) ?_);refine(ae T).mono ?_;rintro e x1 ⟨k1,rfl⟩;refine⟨rfl,?_⟩;unfold LnP;rw[ae Hn];exact⟨(ae HX).2.1.trans k1,rfl⟩
   rw[h1]at T hd;have a7:=eH h1;simp only[a0g]at hd;clear h1;have l:=af hd;clear hd;go_wp2_with (refine bv rfl 259 (.tmp 5) rfl w.heap.size 0 rfl C _ (ae a5) a3P rfl (by rw[ae HZ];exact Tryz.infoLenB) ?_);refine(ae T).mono ?_;rintro e x1 ⟨k1,rfl,r1⟩;have o1:=(ae HX).1.keep1' k1 (by omega);have HY:=af (a0b o1 (a0b ((ae HX).2.1.trans k1) (a0b r1 (a0b a7.1 (a0b (k1.book (ae HX).2.2.2.2.1 cm) (a0i (ae HX).2.2.2.2.2 k1.1.size))))));have Hq:=af a7.2.1;have I:Hid (LnS b s C w x1 (.slice a n cap) A Q):=ae HY;clear k1 r1 o1 HX a5 T a7 HY;have aa:=af ((ae I).1.own (ae F));have ba:w.heap.size+1<=x1.heap.size:=(ae I).2.2.2.2.2;have cv:n<400:=by omega
   by_cases o:k=16
   .
    have a6:(k == 16)=true:=by rw[o];rfl
    by_cases bb:n=0
    .
     have ck:decide (0<n)=false:=a0j (by omega);have Hn:Hid (d=none):=by show d=none;rw[←ae l,o];unfold dm;rw[a0e rfl,a0e (by rw[ae F];exact bb)];rfl
     clear bb o;go_wp2_with fail;refine(er _).mono ?_;rintro e x2 ⟨rfl,D⟩;rw[D];clear D x2;refine⟨rfl,?_⟩;unfold LnP;rw[ae Hn];exact⟨(ae I).2.1,rfl⟩
    .
     have ck:decide (0<n)=true:=a0w (by omega);obtain⟨g,rfl⟩:=(ae I).1.somes (by rw[ae F];omega);have H:Hid (dm (ai s) (8*s.size) A k Q=(rdN (ai s) (8*s.size) Q 2).bind fun x=>some (A++List.replicate (3+x.1) (A.getD (n-1) 0),x.2)):=by
      show _=_;rw[o];unfold dm;rw[a0e rfl,a0d (by rw[ae F];exact bb),ae F]
     rw[ae H]at l;obtain⟨m,hm⟩:∃m,n-1=m:=⟨_,rfl⟩;have cu:(n:Int)-1=(m:Int):=by omega
     have b0:m+1=n:=by omega
     rw[hm]at l;have al:=af b0;have b5:Hid (IntKind.i64.wrap (m:Int)=(m:Int)):=by show _=_;rw[a00];omega
     clear H o hm b0;go_wp2_with fail;refine(cG _).mono ?_;rintro e x2 ⟨rfl,D⟩;rw[D];clear D x2;go_wp2_with fail;have E:=af (bD b Q 2 s x1.drew (show Rdr x1.drew b s Q from(ae I).2.2.1) (ae N).1 (by omega));have cp:n<=cap:=by
      have:=(ae aa);rcases this.2 with⟨e,_⟩|⟨g',co,cr,e,_,_,h1,_⟩
      . cases e
      . simp only[a0O]at e;omega
     refine a0H (S:=fun _=>True) bs trivial (fun hS=>?_);refine ag 0 (.slice (some ⟨g,0,none⟩) n cap) rfl (by kernel_rfl) (fun _ _ _ h=>h) rfl (fun W P=>by go_simp) hS ?_;refine ag 1 (.slice (some ⟨g,0,none⟩) n cap) rfl (by kernel_rfl) (fun _ _ _ h=>h) rfl (fun W P=>by go_simp) hS ?_;refine ag 2 (.slice (some ⟨g,0,none⟩) n cap) rfl (by kernel_rfl) (fun _ _ _ h=>h) rfl (fun W P=>by go_simp) hS ?_;refine ag 3 (.int .i64 (n:Nat)) rfl (by kernel_rfl) (fun _ _ _ h=>h) rfl (fun W P=>by go_simp) hS ?_;refine ag 4 (.int .i64 (m:Nat)) rfl (by kernel_rfl) (fun _ _ _ h=>h) rfl (fun W P=>by go_simp;exact ae b5) hS ?_;refine ag 6 (.pointer (some ⟨b,0,none⟩)) rfl (by kernel_rfl) (fun _ _ _ h=>h) rfl (fun W P=>by go_simp) hS ?_;refine ag 5 (.slice (some ⟨g,m,none⟩) 1 (cap-m)) rfl (by kernel_rfl) (fun _ _ _ h=>h) rfl (fun W P=>by go_simp;rw[a0e (by have:=ae al;omega),a0d (by have:=ae al;omega),show n-m=1 by have:=ae al;omega]) hS ?_;refine ah 7 (by kernel_rfl) rfl fun K V=>?_;go_simp;go_at_call 249;unfold ig at E;rcases h2:rdN (ai s) (8*s.size) Q 2 with _|⟨y,q2⟩
     .
      rw[h2]at E l;have Hn:Hid (d=none):=by show d=none;rw[←ae l];rfl
      refine(ae E).mono ?_;rintro e x2 ⟨R,rfl⟩;refine⟨rfl,?_⟩;unfold LnP;rw[ae Hn];exact⟨(ae I).2.1.trans ((aw.refl b x1).drew.trans R),rfl⟩
     rw[h2]at E l;simp only[a0g]at l;have J:=af (bh h2);have hy:y<4:=by have:=(bh h2).2.2.2;omega
     clear h2;refine(ae E).mono ?_;rintro e x2 ⟨R,rfl,r2⟩;refine a0f V _ _ trivial (fun M=>?_);clear V K;have r:=af ((ae I).keep (ae N).2.2.2 ((aw.refl b x1).drew.trans R) r2 (ae J).1);clear R r2 E;obtain⟨c,hc⟩:∃c,3+y=c:=⟨_,rfl⟩;have b6:Hid (IntKind.i64.wrap (3+(y:Int))=(c:Int)):=by show _=_;rw[a00];omega
     have cs:(c:Int)<=7:=by omega
     have ch:1<=c:=by omega
     rw[hc]at l;clear hc;refine a0Q (i:=8) (v:=.int .i64 (c:Nat)) rfl (by kernel_rfl) (by kernel_rfl) (by kernel_rfl) (fun _ _ _ h=>h) (a0I ⟨by rfl,fun W P=>by go_simp;exact ae b6⟩) M ?_;refine ah 9 (by kernel_rfl) rfl fun K V=>?_;go_simp;go_at_call 115;have Y:x2.cell? ⟨g,m,none⟩=some (.int .i64 (A.getD m 0)):=((ae r).1.at (ae F) (by have:=ae al;omega)).1;refine(mV (A.getD m 0) c (cap-m) g m x2 Y ch (by omega)).mono ?_;rintro e x3 ⟨rfl,o3,b3⟩;have ad:=af ((ae r).below (ae N).2.2.2 b3);have be:=af o3;generalize A.getD m 0=z at *
     refine a0f V _ _ trivial (fun t=>?_);clear V K o3 b3 Y;refine ah 10 (by kernel_rfl) rfl fun K V=>?_;refine ak rfl _ _ 146 rfl (w.heap.size+1) 3 i0 (.int .i64 0) 1 8 a0L hi a2 a3 a4 rfl (by decide) (.slice (some ⟨g,0,none⟩) n cap) n _ rfl ((ae ad).1.own (ae F)) ⟨x2.heap.size,0,none⟩ c c ((List.replicate c z).map (Value.int .i64)) rfl (by simp) (a1Q ((ae be).own (n:=c) (by simp)) rfl) (by intro u hu;simp only[a2S]at hu;obtain⟨_,_,rfl⟩:=hu;rfl) (by unfold maxLen;omega) (by omega) (by have:=(ae ad).2.2.2.2.2;omega) (fun v' x4 j f Z=>?_);clear Z;rw[List.map_replicate]at j;have an:=(ae ad).grown (ae N).2.2.2 f (rF (ae F) j);have HI:=af (an.done (B:=B) (many:=many) (d:=d) (by rw[a0o,ae F,a0A];omega) (ae l));have O:=af (an.2.2.1.place an.2.2.2.1);clear j f an;refine a0f V _ _ trivial (fun cc=>?_);clear V K;refine ah 11 (by kernel_rfl) rfl fun K V=>?_;go_simp;refine a0f V _ _ trivial (fun cg=>?_);clear V K;refine a0u (by kernel_rfl) ?_ _;clear I r ad be aa hS M t cc cg;go_wp2_with fail;go_roundw
     case rel=>exact ae HI
     case measure=>rw[ae O,ae ac];have:=ae Hq;have:=ae J;omega
   .
    by_cases L:k=17
    .
     have bk:(k == 17)=true:=by rw[L];rfl
     have a6:(k == 16)=false:=by rw[a03];exact o
     have E:=af (bD b Q 3 s x1 (ae I).2.2.1 (ae N).1 (by omega));have H:Hid (dm (ai s) (8*s.size) A k Q=(rdN (ai s) (8*s.size) Q 3).bind fun x=>some (A++List.replicate (3+x.1) 0,x.2)):=by
      show _=_;rw[L];unfold dm;rw[a0d (by decide),a0e rfl]
     rw[ae H]at l;clear o L H;unfold ig at E;rcases h2:rdN (ai s) (8*s.size) Q 3 with _|⟨y,q2⟩
     .
      rw[h2]at E l;have Hn:Hid (d=none):=by show d=none;rw[←ae l];rfl
      clear h2 l;go_wp2_with fail;refine(ae E).mono ?_;rintro e x2 ⟨R,rfl⟩;refine⟨rfl,?_⟩;unfold LnP;rw[ae Hn];exact⟨(ae I).2.1.trans R,rfl⟩
     .
      rw[h2]at E l;simp only[a0g]at l;have G:=bh h2;have hy:y<8:=by have:=G.2.2.2;omega
      have J:=af (a0b G.1 G.2.1);clear h2 G;go_wp2_with fail;refine(ae E).mono ?_;rintro e x2 ⟨R,rfl,r2⟩;have r:=af ((ae I).keep (ae N).2.2.2 R r2 (ae J).1);have ab:=af ((ae r).1.own (ae F));have X:w.heap.size+1<=x2.heap.size:=(ae r).2.2.2.2.2;have bd:Hid (n+(3+y)<=maxLen/\(n+(3+y))*8<=140737488355328):=by show _/\_;unfold maxLen;omega
      clear R r2 E I aa ba;go_wp2_with (at_builtin;refine gP _ rfl _ _ 146 3 rfl (w.heap.size+1) 3 i0 (.int .i64 0) 8 .i64 .i64 a0L a2N hi a2 a3 a4 rfl rfl (.slice a n cap) n _ rfl (ae ab) (3+y) (by simp[Act.eval]) (by omega) (ae bd).1 (ae bd).2 X ?_;intro v' x3 j f);have t:=(ae r).grown (ae N).2.2.2 f (rF (ae F) j);have HI:=af (t.done (B:=B) (many:=many) (d:=d) (by rw[a0o,ae F,a0A];omega) (ae l));have O:=af (t.2.2.1.place t.2.2.2.1);clear j f t;go_wp2_with fail;go_roundw
      case rel=>exact ae HI
      case measure=>rw[ae O,ae ac];have:=ae Hq;have:=ae J;omega
    .
     by_cases U:k=18
     .
      have bk:(k == 18)=true:=by rw[U];rfl
      have a6:(k == 16)=false:=by rw[a03];exact o
      have b7:(k == 17)=false:=by rw[a03];exact L
      have E:=af (bD b Q 7 s x1 (ae I).2.2.1 (ae N).1 (by omega));have H:Hid (dm (ai s) (8*s.size) A k Q=(rdN (ai s) (8*s.size) Q 7).bind fun x=>some (A++List.replicate (11+x.1) 0,x.2)):=by
       show _=_;rw[U];unfold dm;rw[a0d (by decide),a0d (by decide),a0e rfl]
      rw[ae H]at l;clear o L U H;unfold ig at E;rcases h2:rdN (ai s) (8*s.size) Q 7 with _|⟨y,q2⟩
      .
       rw[h2]at E l;have Hn:Hid (d=none):=by show d=none;rw[←ae l];rfl
       clear h2 l;go_wp2_with fail;refine(ae E).mono ?_;rintro e x2 ⟨R,rfl⟩;refine⟨rfl,?_⟩;unfold LnP;rw[ae Hn];exact⟨(ae I).2.1.trans R,rfl⟩
      .
       rw[h2]at E l;simp only[a0g]at l;have G:=bh h2;have hy:y<128:=by have:=G.2.2.2;omega
       have J:=af (a0b G.1 G.2.1);clear h2 G;go_wp2_with fail;refine(ae E).mono ?_;rintro e x2 ⟨R,rfl,r2⟩;have r:=af ((ae I).keep (ae N).2.2.2 R r2 (ae J).1);have ab:=af ((ae r).1.own (ae F));have X:w.heap.size+1<=x2.heap.size:=(ae r).2.2.2.2.2;have bd:Hid (n+(11+y)<=maxLen/\(n+(11+y))*8<=140737488355328):=by show _/\_;unfold maxLen;omega
       clear R r2 E I aa ba;go_wp2_with (at_builtin;refine gP _ rfl _ _ 146 3 rfl (w.heap.size+1) 3 i0 (.int .i64 0) 8 .i64 .i64 a0L a2N hi a2 a3 a4 rfl rfl (.slice a n cap) n _ rfl (ae ab) (11+y) (by simp[Act.eval]) (by omega) (ae bd).1 (ae bd).2 X ?_;intro v' x3 j f);have t:=(ae r).grown (ae N).2.2.2 f (rF (ae F) j);have HI:=af (t.done (B:=B) (many:=many) (d:=d) (by rw[a0o,ae F,a0A];omega) (ae l));have O:=af (t.2.2.1.place t.2.2.2.1);clear j f t;go_wp2_with fail;go_roundw
       case rel=>exact ae HI
       case measure=>rw[ae O,ae ac];have:=ae Hq;have:=ae J;omega
     .
      have a6:(k == 16)=false:=by rw[a03];exact o
      have b7:(k == 17)=false:=by rw[a03];exact L
      have cq:(k == 18)=false:=by rw[a03];exact U
      have bd:Hid (n+1<=maxLen/\(n+1)*8<=140737488355328):=by show _/\_;unfold maxLen;omega
      have HE:Hid (lnG (ai s) (8*s.size) B many Q (A++[k])=d):=by
       show _=d;rw[←ae l];unfold dm;rw[a0d o,a0d L,a0d U];rfl
      clear o L U l;go_wp2_with (at_builtin;refine a0v _ rfl _ _ 146 rfl (w.heap.size+1) 3 i0 (.int .i64 0) 1 8 a0L hi a2 a3 a4 rfl (by decide) (.slice a n cap) _ _ rfl (a0k (ae aa) _) ⟨x1.heap.size,0,none⟩ 1 1 [.int .i64 k] rfl rfl (bo _ _ rfl _ _) (eZ _) (ae bd).1 (ae bd).2 (av ba _) ?_;intro v' x2 j f Z;clear Z);have M:=((ae I).below (ae N).2.2.2 ((a0c _ _).alloc (a0a _) (.cells #[.int .i64 k] 3))).grown (ae N).2.2.2 f (cF (ae F) j);have HI:=af (M.done (B:=B) (many:=many) (d:=d) (by rw[a0o,ae F,a1R];omega) (ae HE));have O:=af (M.2.2.1.place M.2.2.2.1);have HQ:=af M.2.2.2.1;clear j f M;go_wp2_with fail;go_roundw
      case rel=>exact ae HI
      case measure=>rw[ae O,ae ac];have:=ae Hq;have:=ae HQ;omega
  .
   have b1:¬ (n:Int)<(many:Int):=by omega
   rw[yq hq (by omega)]at hd;have l:=af hd;clear ho a0 hr hq ao bc hn hA hd;by_cases hE:n=many
   .
    have b8:((n:Int) == (many:Int))=true:=by rw[hE];exact beq_self_eq_true _
    rw[a0e (by rw[ae F];exact hE)]at l;clear hE;go_wp2_with fail;refine(cG _).mono ?_;rintro e x2 ⟨rfl,D⟩;rw[D];clear D x2;go_wp2;go_ret;unfold LnP;rw[←ae l];exact⟨(ae HX).2.1,⟨_,rfl,(ae HX).1.mono (a1k _)⟩,(ae HX).2.2.1⟩
   .
    have b8:((n:Int) == (many:Int))=false:=by rw[a03];omega
    rw[a0d (by rw[ae F];exact hE)]at l;clear hE;go_wp2_with fail;refine(er _).mono ?_;rintro e x2 ⟨rfl,D⟩;rw[D];clear D x2;refine⟨rfl,?_⟩;unfold LnP;rw[←ae l];exact⟨(ae HX).2.1,rfl⟩
theorem CJ:ay (c9 288)=true:=by kernel_rfl
theorem xw:ay (List.replicate 32 (5:Int))=true:=by kernel_rfl
theorem bT.take{base:Nat}(h:bT w base a l)(n:Nat):bT w base a (l.take n):=by
 have j:(l.take n).length<=l.length:=by rw[a0t];omega
 refine⟨fun b=>?_,fun b=>h.2 (by omega)⟩;obtain⟨g,o,e,d,c⟩:=h.1 (by omega);refine⟨g,o,e,d,fun i f=>?_⟩;rw[c i (by omega)];rw[a0t]at f;simp[List.getD,show i<n by omega]
theorem bT.drop{base:Nat}(h:bT w base (some ⟨g,o,none⟩) l)(n:Nat):bT w base (some ⟨g,o+n,none⟩) (l.drop n):=by
 have f:(l.drop n).length=l.length-n:=a01 ..;refine⟨fun a=>?_,fun a x e=>?_⟩
 . obtain⟨g',o',e,c,b⟩:=h.1 (by omega);simp only[a0m,a0F,a1a]at e;obtain⟨rfl,rfl⟩:=e;refine⟨g,o+n,rfl,c,fun i d=>?_⟩;have:=b (n+i) (by omega);rw[←Nat.add_assoc]at this;rw[this];simp[List.getD,List.getElem?_drop]
 . have:=h.2 (by omega) _ rfl;simp only[a0m]at e;subst e;exact this
theorem tC(b p:Nat)(s:ByteArray)(T:List UInt8)(w:World)(h:Sou w b s p T)(o:T.length<=300)(r:p<=8*s.size)(t:s.size<=2000000) :
  Calls prog 247 #[.pointer (some ⟨b,0,none⟩)] w (cn w b s (Ek (ai s) (8*s.size) p T)):=by
 obtain⟨d,hd⟩:∃d,Ek (ai s) (8*s.size) p T=d:=⟨_,rfl⟩;rw[hd];have a:=af (a0b h (a0b o (a0b r t)));have k:=af hd;have j:=h.lt;clear h o r t hd;go_enter func247,ntmps247;go_wp2_with fail;refine(rt w).mono ?_;rintro e x1 ⟨⟨C,rfl,n⟩,i⟩;have g:=af (ti b p (w.heap.size+1) s (c9 288) (List.replicate 32 5) C T x1 ((ae a).1.later i) (ae a).2.1 (ae a).2.2.1 (ae a).2.2.2 n (by omega) CJ xw);have l:=af (show gx (ai s) (8*s.size) (c9 288) (List.replicate 32 5) p T=d from ae k);rw[ae l]at g;have f:=af ((KU.refl b w).later i j);clear n i a k l;go_wp2_with fail;refine(ae g).mono ?_;intro e x2 h2;unfold cn at h2;rcases d with _|⟨T',q⟩
 . obtain⟨c,rfl⟩:=h2;refine⟨rfl,?_⟩;unfold cn;exact⟨(ae f).trans c,rfl⟩
 .
  obtain⟨c,rfl,s2⟩:=h2;have m:=af (a0b ((ae f).trans c) s2);clear c s2 g f;go_wp2
  go_end0
  unfold cn;exact⟨(ae m).1,rfl,(ae m).2⟩
theorem bE.second{base:Nat}{a b:Array Value}(h:eA w base L D (a++b))(d:a.size=19):bE w base D b:=by
 obtain⟨E1,E2,e,f1,f2⟩:=h;have c:=congrArg Array.toList e;simp only[a1B]at c;have h2:=a2d c (by simp[d,f1.size]);rw[Array.ext' h2.2];exact f2
theorem tq{P:Program}{ops:Array Oper}{S:World->Prop}{op:Oper}{a:Act}(d:Region.wanted op (yielded ops a.tmps)=true)(t:TypeId)(parts:Array (Nat×Operand))(c:op.op = .build t parts)(cells:Array Value)
  (b:P.built t (parts.map fun(i,x)=>(i,a.eval x)).toList=some cells):YieldsIf P ops S op (.agg cells) a:=
 a0I ⟨d,fun w _=>by unfold execOp;simp only[c,a2M,run_build w t _ cells b,Result.andThen_ok,Sem.run_pure]⟩
theorem qG{P:Program}{ops:Array Oper}{S:World->Prop}{op:Oper}{a:Act}(d:Region.wanted op (yielded ops a.tmps)=true)(t:TypeId)(x y:Operand)(c:op.op = .build t #[(0,x),(1,y)])(cells:Array Value)(u v:Value)(f:a.eval x=u)(g:a.eval y=v)
  (b:P.built t [(0,u),(1,v)]=some cells):YieldsIf P ops S op (.agg cells) a:=by
 have e:((#[(0,x),(1,y)]:Array (Nat×Operand)).map fun(i,x)=>(i,a.eval x)).toList=[(0,u),(1,v)]:=by simp[f,g]
 exact tq d t _ c cells (by rw[e];exact b)
theorem yQ(b p:Nat)(s:ByteArray)(T:List UInt8)(w:World)(h:Sou w b s p T)(hT:T.length<=300)(hs:s.size<=2000000)(hO:fP w)(hb:1<b) :
  Calls prog 248 #[.pointer (some ⟨b,0,none⟩)] w (cn w b s (sB (ai s) (8*s.size) p T)):=by
 have bb:prog.follows .mixedOrders=true:=by kernel_rfl
 obtain⟨d,hd⟩:∃d,sB (ai s) (8*s.size) p T=d:=⟨_,rfl⟩;rw[hd];have f:=af hd;unfold sB at f;have y:=af (a0b hs (a0b hT (a0b hO hb)));have j:=af (bD b p 5 s w h.1 hs (by omega));have HS:=af h;clear h hT hs hO hb hd;go_enter func248,ntmps248;unfold ig at j;rcases h1:rdN (ai s) (8*s.size) p 5 with _|⟨a,q1⟩
 .
  rw[h1]at j f;have t:Hid (d=none):=by show d=none;rw[←ae f];rfl
  clear h1 f;go_wp2_with fail;refine(ae j).mono ?_;rintro e x1 ⟨k1,rfl⟩;refine⟨rfl,?_⟩;unfold cn;rw[ae t];exact⟨k1.ku,rfl⟩
 rw[h1]at j f;simp only[a0g]at f;have ha:a<32:=by have:=(bh h1).2.2.2;omega
 clear h1;go_wp2_with fail;refine(ae j).mono ?_;rintro e x1 ⟨k1,rfl,r1⟩;have M:=af k1;have a2:=af r1;clear k1 r1 j;have j:=af (bD b q1 5 s x1 (ae a2) (ae y).1 (by omega));unfold ig at j;rcases h2:rdN (ai s) (8*s.size) q1 5 with _|⟨c,q2⟩
 .
  rw[h2]at j f;have t:Hid (d=none):=by show d=none;rw[←ae f];rfl
  clear h2 f;go_wp2_with fail;refine(ae j).mono ?_;rintro e x2 ⟨k2,rfl⟩;refine⟨rfl,?_⟩;unfold cn;rw[ae t];exact⟨((ae M).trans k2).ku,rfl⟩
 rw[h2]at j f;simp only[a0g]at f;have hc:c<32:=by have:=(bh h2).2.2.2;omega
 clear h2;go_wp2_with fail;refine(ae j).mono ?_;rintro e x2 ⟨k2,rfl,r2⟩;have u:=af ((ae M).trans k2);have a3:=af r2;clear k2 r2 j M a2;have j:=af (bD b q2 4 s x2 (ae a3) (ae y).1 (by omega));unfold ig at j;by_cases hA:a+257<=286/\c+1<=30
 .
  rw[a0e hA]at f;have z:(a:Int)+256+1<=286:=by omega
  have b0:(c:Int)+1<=30:=by omega
  clear hA;obtain⟨nL,hnL⟩:∃n,a+257=n:=⟨_,rfl⟩;obtain⟨nD,hnD⟩:∃n,c+1=n:=⟨_,rfl⟩;have e1:(a:Int)+256+1=(nL:Int):=by omega
  have e2:(c:Int)+1=(nD:Int):=by omega
  have l1:nL<=286/\257<=nL:=by omega
  have l2:nD<=30/\1<=nD:=by omega
  have l1I:(nL:Int)<=286:=by omega
  have l2I:(nD:Int)<=30:=by omega
  rw[hnL,hnD]at f;clear hnL hnD;go_wp2_with fail;refine(cG _).mono ?_;rintro e x3 ⟨rfl,k⟩;rw[k];clear k x3;clear e1 e2 z b0 ha hc;rcases h3:rdN (ai s) (8*s.size) q2 4 with _|⟨m,q3⟩
  .
   rw[h3]at j f;have t:Hid (d=none):=by show d=none;rw[←ae f];rfl
   clear h3 f;go_wp2_with fail;refine(ae j).mono ?_;rintro e x3 ⟨k3,rfl⟩;refine⟨rfl,?_⟩;unfold cn;rw[ae t];exact⟨((ae u).trans k3).ku,rfl⟩
  rw[h3]at j f;simp only[a0g]at f;have b8:m<16:=by have:=(bh h3).2.2.2;omega
  have a5:=af (bh h3).1;obtain⟨mm,hmm⟩:∃n,m+4=n:=⟨_,rfl⟩;have e3:(m:Int)+4=(mm:Int):=by omega
  have ad:mm<=19:=by omega
  rw[hmm]at f;clear h3 hmm;go_wp2_with fail;refine(ae j).mono ?_;rintro e x3 ⟨k3,rfl,r3⟩;have x:=af ((ae u).trans k3);have Q:=af r3;clear k3 r3 j u a3;have HB:=af (wu b q3 mm s x3 (ae Q) (ae a5) (ae y).1 ad ((ae y).2.2.1.below (ae x).1 (ae y).2.2.2) (ae y).2.2.2);unfold LbP at HB;rcases h4:iy (ai s) (8*s.size) mm q3 with _|⟨B,q4⟩
  .
   rw[h4]at HB f;have t:Hid (d=none):=by show d=none;rw[←ae f];rfl
   clear h4 f;go_wp2_with fail;refine(ae HB).mono ?_;rintro e x4 ⟨k4,rfl⟩;refine⟨rfl,?_⟩;unfold cn;rw[ae t];exact⟨((ae x).trans k4).ku,rfl⟩
  rw[h4]at HB f;simp only[a0g]at f;have Y:=af (oV h4 (ae a5));clear h4;go_wp2_with fail;refine(ae HB).mono ?_;rintro e x4 ⟨k4,⟨C,rfl,a6⟩,r4⟩;have N:=af ((ae x).trans k4);have R:=af r4;have al:=af a6;have a9:b<x3.heap.size:=(ae Q).lt;clear k4 r4 HB x Q a6 e3;have P:=af (ww b q4 (nL+nD) x3.heap.size s B C x4 (ae R) (ae Y).1 (ae y).1 (by omega) (ae al) a9 (ae Y).2.2.1);have e5:((nL+nD:Nat):Int)=(nL:Int)+(nD:Int):=by omega
  rw[e5]at P;clear e5;unfold LnP at P;rcases h5:lnG (ai s) (8*s.size) B (nL+nD) q4 []with _|⟨A,q5⟩
  .
   rw[h5]at P f;have t:Hid (d=none):=by show d=none;rw[←ae f];rfl
   clear h5 f;go_wp2_with fail;refine(ae P).mono ?_;rintro e x5 ⟨k5,rfl⟩;refine⟨rfl,?_⟩;unfold cn;rw[ae t];exact⟨((ae N).trans k5).ku,rfl⟩
  rw[h5]at P f;simp only[a0g]at f;have a4:=af (Bp h5 (ae Y).1);clear h5;go_wp2_with fail;refine(ae P).mono ?_;rintro e x5 ⟨k5,⟨v,rfl,hv⟩,r5⟩;have D:A.length=nL+nD:=(ae a4).2.2;obtain⟨ga,cap,rfl⟩:=hv.formN D;obtain⟨g,rfl⟩:=hv.somes (by omega);have b5:nL+nD<=cap:=by
   rcases (hv.own D).2 with⟨e,_⟩|⟨g',b4,cc,e,_,_,h1,_⟩
   . cases e
   . simp only[a0O]at e;omega
  have O:=af ((ae N).trans k5);have U:=af ((ae HS).keep1 (ae O) r5);have be:=af (bU D (hv.own D));have ba:b<x4.heap.size:=(ae R).lt;have J:x4.heap.size<=x5.heap.size:=k5.1.size;clear k5 r5 P hv N R al;go_wp2_with fail;refine a0H (S:=fun _=>True) bb trivial (fun I=>?_);refine ag 0 (.pointer (some ⟨b,0,none⟩)) rfl (by kernel_rfl) (fun _ _ _ h=>h) rfl (fun W r=>by go_simp) I ?_;refine ag 1 (.slice (some ⟨g,0,none⟩) (nL+nD) cap) rfl (by kernel_rfl) (fun _ _ _ h=>h) rfl (fun W r=>by go_simp) I ?_;refine ag 2 (.int .i64 (nL:Nat)) rfl (by kernel_rfl) (fun _ _ _ h=>h) rfl (fun W r=>by go_simp) I ?_;refine ag 5 (.slice (some ⟨g,0,none⟩) (nL+nD) cap) rfl (by kernel_rfl) (fun _ _ _ h=>h) rfl (fun W r=>by go_simp) I ?_;refine ag 6 (.int .i64 (nL:Nat)) rfl (by kernel_rfl) (fun _ _ _ h=>h) rfl (fun W r=>by go_simp) I ?_;refine ag 3 (.slice (some ⟨g,0,none⟩) nL cap) rfl (by kernel_rfl) (fun _ _ _ h=>h) rfl (fun W r=>by go_simp;intro h;omega) I ?_;refine ag 7 (.slice (some ⟨g,nL,none⟩) nD (cap-nL)) rfl (by kernel_rfl) (fun _ _ _ h=>h) rfl (fun W r=>by go_simp;rw[a0e (by omega),a0d (by omega)]) I ?_;have ao:Hid (bT x5.drew x4.heap.size (some ⟨g,0,none⟩) A):=(ae be).later (a0c _ _).drew;have tl:(A.take nL).length=nL:=by rw[a0t];omega
  have dl:(A.drop nL).length=nD:=by rw[a01];omega
  have l:=af (EZ (some ⟨g,0,none⟩) cap nL x4.heap.size (A.take nL) x5.drew tl ((ae ao).take nL) J (by omega));refine ah 4 (by kernel_rfl) rfl fun K H=>?_;go_simp;go_at_call 272;unfold ri at f;cases ab:ay (A.take nL)
  . rw[ab]at l f;simp only[a1e,a1f]at l f;refine(ae l).mono ?_;rintro e x6 ⟨Z,rfl⟩;refine⟨rfl,?_⟩;unfold cn;rw[←ae f];exact⟨((ae O).drew.ku).later Z (show b<x5.drew.heap.size from(ae U).lt),rfl⟩
  rw[ab]at l f;simp only[a09]at l f;refine(ae l).mono ?_;rintro e x6 ⟨Z,F,rfl,E⟩;have a0:=af (((ae O).drew.ku).later Z (show b<x5.drew.heap.size from(ae U).lt));have V:=af (Sou.later (w:=x5.drew) (show Sou x5.drew b s q5 T from ae U) Z);have L:=af E;have b3:x4.heap.size<=x6.heap.size:=a0G J Z.size;have bk:=af ((ae ao).later Z);refine a0f H _ _ trivial (fun b1=>?_);clear H K Z E l;have o:=af (AC (some ⟨g,nL,none⟩) (cap-nL) nD x4.heap.size (A.drop nL) x6 dl (by have:=(ae bk).drop nL;rwa[a0B]at this) b3 (by omega));refine ah 8 (by kernel_rfl) rfl fun K H=>?_;go_simp;go_at_call 273;cases ac:ay (A.drop nL)
  . rw[ac]at o f;simp only[a1e,a1f]at o f;refine(ae o).mono ?_;rintro e x7 ⟨b7,rfl⟩;refine⟨rfl,?_⟩;unfold cn;rw[←ae f];exact⟨(ae a0).later b7 (ae V).lt,rfl⟩
  rw[ac]at o f;simp only[a09]at o f;refine(ae o).mono ?_;rintro e x7 ⟨b7,G,rfl,aa⟩;have a1:=af ((ae a0).later b7 (ae V).lt);have bs:=af ((ae V).later b7);have an:Hid (eA x7 x4.heap.size (A.take nL) (A.drop nL) (F++G)):=⟨F,G,rfl,(ae L).later b7,aa⟩;have bc:=(ae L).later b7;refine a0f H _ _ trivial (fun a7=>?_);clear H K b7 aa o;have bd:Hid (prog.built 184 [(0,.agg F),(1,.agg G)]=some (F++G)):=by
   exact pK bc (bE.second (ae an) (ae L).size)
  have X:=af (ti b q5 x4.heap.size s (A.take nL) (A.drop nL) (F++G) T x7 (ae bs) (ae y).2.1 (ae a4).1 (ae y).1 (ae an) ba ab ac);rw[ae f]at X;refine a0Q (i:=9) (v:=.agg (F++G)) rfl (by kernel_rfl) (by kernel_rfl) (by kernel_rfl) (fun _ _ _ h=>h) (qG (by rfl) 184 (.tmp 35) (.tmp 39) rfl (F++G) (.agg F) (.agg G) rfl rfl (ae bd)) a7 ?_;refine ah 10 (by kernel_rfl) rfl fun K H=>?_;go_simp;go_at_call 269;refine(ae X).mono ?_;intro e x8 h8;unfold cn at h8;rcases d with _|⟨T',q⟩
  . obtain⟨k8,rfl⟩:=h8;refine⟨rfl,?_⟩;unfold cn;exact⟨(ae a1).trans k8,rfl⟩
  .
   obtain⟨k8,rfl,s8⟩:=h8;have HY:=af (a0b ((ae a1).trans k8) s8);refine a0f H _ _ trivial (fun b2=>?_);clear H K k8 s8 X;refine a0u (by kernel_rfl) ?_ _;clear I b1 a7 b2;go_wp2
   go_end0
   unfold cn;exact⟨(ae HY).1,rfl,(ae HY).2⟩
 .
  rw[a0d hA]at f;have t:Hid (d=none):=by show d=none;rw[←ae f]
  by_cases z:a+257<=286
  .
   have E:(a:Int)+256+1<=286:=by omega
   have aa:decide ((c:Int)+1<=30)=false:=a0j (by omega);clear hA z;go_wp2_with fail;refine(er _).mono ?_;rintro e x3 ⟨rfl,k⟩;rw[k];clear k x3;refine⟨rfl,?_⟩;unfold cn;rw[ae t];exact⟨(ae u).ku,rfl⟩
  . have E:decide ((a:Int)+256+1<=286)=false:=a0j (by omega);clear hA z;go_wp2_with fail;refine(er _).mono ?_;rintro e x3 ⟨rfl,k⟩;rw[k];clear k x3;refine⟨rfl,?_⟩;unfold cn;rw[ae t];exact⟨(ae u).ku,rfl⟩
def MR(sz p:Nat)(T:List UInt8)(d:Option (List UInt8×Nat))(T':List UInt8)(q:Nat)(f:Bool):Prop:=
 (f=false->q<=sz/\p<=q/\T'.length<=300+q)/\(T.length<=300->f=false->T'.length<=300->d=some (T',q))/\(T.length<=300->(f=true∨300<T'.length)->d=none)/\(300<T.length->f=true∨300<T'.length)
def MP(w:World)(b p:Nat)(s:ByteArray)(T:List UInt8)(d:Option (List UInt8×Nat))(e:Ending)(w':World):Prop:=
 KU b w w'/\∃v T' q f,e = .returned v/\aK w' (b+1) v T'/\RF w' b s q f/\MR (8*s.size) p T d T' q f
theorem MR.bad(h:T.length<=300->d=none):MR sz p T d T' q true:=
 ⟨nofun,fun _=>nofun,fun a _=>h a,fun _=>.inl rfl⟩
theorem lv(R:List UInt8)(y:Nat)(b:y<256):dT R ((y:Nat),0,0)=if R.length+1<=300 then some (R++[cU (y:Nat)])else none:=by
 have a:isB (((y:Nat):Int),0,0)=true:=by unfold isB inB;simp;omega
 unfold dT fQ;rw[a];simp
theorem Aq: ∀(n p:Nat) (T T':List UInt8) (q:Nat),du V sz n p T=some (T',q)->T'.length=T.length+n/\(0<n->T'.length<=300):=by
 intro n;induction n with
 | zero=>
  intro p T T' q h;simp only[du,a0m,a0X]at h;obtain⟨rfl,rfl⟩:=h;exact⟨rfl,fun h=>by omega⟩
 | succ n ih=>
  intro p T T' q h;simp only[du]at h;rcases a:rdN V sz p 8 with _|⟨x,r⟩
  . rw[a]at h;cases h
  .
   rw[a]at h;simp only[a0g]at h;have c:=bh a;rw[lv T x (by have:=c.2.2.2;omega)]at h
   split at h
   .
    simp only[a0g]at h;obtain⟨a1,a2⟩:=ih _ _ _ _ h;rw[a0o,a1R]at a1;refine⟨by omega,fun _=>?_⟩;rcases a2E n with b|b
    . omega
    . exact a2 b
   . cases h
theorem wZ(h:300<n):du V sz n p T=none:=by
 rcases a:du V sz n p T with _|⟨T',q⟩
 . rfl
 . have:=Aq _ _ _ _ _ a;have:=this.2 (by omega);omega
def StI(sz V x q0:Nat)(T:List UInt8)(d:Option (List UInt8×Nat))(k q:Nat)(R:List UInt8)(f:Bool):Prop:=
 k<=x/\T.length<=R.length/\R.length<=T.length+k/\(f=false->q<=sz/\q0<=q/\R.length<=300+q/\(R.length<=300->du V sz (x-k) q R=d)/\(300<R.length->T.length<=300->d=none))/\(f=true->T.length<=300->d=none)
theorem StI.next{x i:Nat}(h:StI sz V x i T d k q R false)(f:k<x):StI sz V x i T d (k+1) (q+8) (R++[cU ((V/2 ^ q%2 ^ 8:Nat):Int)]) (false || decide (sz<q+8)):=by
 obtain⟨l,h2,m,j,_⟩:=h;obtain⟨a1,a2,a3,a4,a5⟩:=j rfl;have e:x-k=(x-(k+1))+1:=by omega
 have g:V/2 ^ q%2 ^ 8<256:=a05 _ (by decide);rw[a1Z];have n:(R++[cU ((V/2 ^ q%2 ^ 8:Nat):Int)]).length=R.length+1:=by simp
 by_cases c:sz<q+8
 .
  rw[a0w c];refine⟨f,by omega,by omega,nofun,fun _ b=>?_⟩;by_cases a:R.length<=300
  . rw[←a4 a,e];simp only[du];rw[dZ (by omega)];rfl
  . exact a5 (by omega) b
 .
  rw[a0j c];refine⟨f,by omega,by omega,fun _=>⟨by omega,by omega,by omega,fun h=>?_,fun h b=>?_⟩,nofun⟩
  . have:=a4 (by omega);rw[e]at this;simp only[du]at this;rw[ca (by omega)]at this;simp only[a0g]at this;rw[lv R _ g,a0e (by omega)]at this;exact this
  .
   by_cases a:R.length<=300
   . have:=a4 a;rw[e]at this;simp only[du]at this;rw[ca (by omega)]at this;simp only[a0g]at this;rw[lv R _ g,a0d (by omega)]at this;exact this.symm
   . exact a5 (by omega) b
theorem StI.done{x b:Nat}(h:StI sz V x b T d k q R f)(n:p<=b)(i:f=true∨¬ k<x):MR sz p T d R q f:=by
 obtain⟨l,h2,m,c,e⟩:=h;cases f
 .
  obtain⟨a1,a2,a3,a4,a5⟩:=c rfl;have j:x-k=0:=by
   rcases i with h|h
   . cases h
   . omega
  refine⟨fun _=>⟨a1,by omega,a3⟩,fun a _ g=>?_,fun a h=>?_,fun a=>.inr (by omega)⟩
  . rw[←a4 g,j];rfl
  .
   rcases h with h|h
   . cases h
   . exact a5 h a
 . exact MR.bad (e rfl)
def MS(w:World)(b:Nat)(s:ByteArray)(x:World)(v:Value)(R:List UInt8)(q:Nat)(f:Bool):Prop:=KU b w x/\aK x (b+1) v R/\RF x b s q f
theorem MS.keep1{f':Bool}(h:MS w b s x v R q f)(a:aw b x x')(c:RF x' b s q' f'):MS w b s x' v R q' f':=⟨h.1.trans a.ku,h.2.1.keep1 a (a0l _),c⟩
theorem MS.setBad(h:MS w b s x v R q f):MS w b s (x.setCell ⟨b,2,none⟩ (.bool true)) v R q true:=h.keep1 (bf _ _ _ _) h.2.2.setBad
theorem MS.lt(h:MS w b s x v R q f):b<x.heap.size:=h.2.2.lt
theorem MS.belU{a:List UInt8}(h:MS w b s x v R q f)(hb:bZ (b+1) x x')(e:aK x' (b+1) v' a):MS w b s x' v' a q f:=
 ⟨h.1.trans ⟨hb.1.mono (a1k _),fun j c _ d=>hb.2 j c d⟩,e,h.2.2.kept hb.1⟩
theorem MS.end(h:MS w b s x v R q f)(a:MR (8*s.size) p T d R q f):MP w b p s T d (.returned v) x:=⟨h.1,v,R,q,f,rfl,h.2.1,h.2.2,a⟩
theorem lj(h:fJ V p=none):dk V sz p T=none:=by unfold dk;rw[h];rfl
theorem qh(h:fJ V p=some q):dk V sz p T=(rdN V sz q 16).bind fun a=>(rdN V sz a.2 16).bind fun c=>if c.1=65535-a.1 then du V sz a.1 c.2 T else none:=by unfold dk;rw[h];rfl
theorem lk(h:fJ V p=some q)(b:sz<q+32):dk V sz p T=none:=by
 rw[qh h];by_cases a:q+16<=sz
 . rw[ca a];simp only[a0g];rw[dZ (by omega)];rfl
 . rw[dZ a];rfl
theorem m8(h:fJ V p=some q)(a:q+32<=sz):dk V sz p T=if V/2 ^ (q+16)%2 ^ 16=65535-V/2 ^ q%2 ^ 16 then du V sz (V/2 ^ q%2 ^ 16) (q+32) T else none:=by
 rw[qh h,ca (by omega)];simp only[a0g];rw[ca (by omega)];simp only[a0g]
theorem FQ(h:fJ V p=some q)(b:¬ V/2 ^ (q+16)%2 ^ 16=65535-V/2 ^ q%2 ^ 16):dk V sz p T=none:=by
 by_cases a:q+32<=sz
 . rw[m8 h a,a0d b]
 . exact lk h (by omega)
theorem BP(h:fJ V p=some q)(b:300<V/2 ^ q%2 ^ 16):dk V sz p T=none:=by
 by_cases a:q+32<=sz
 .
  rw[m8 h a]
  split
  . exact wZ b
  . rfl
 . exact lk h (by omega)
theorem BQ(b p n cap:Nat)(a:Option Addr)(s:ByteArray)(T:List UInt8)(w:World)(hn:T.length=n)(ho:aK w (b+1) (.slice a n cap) T)(hr:Rdr w b s p)(hp:p<=8*s.size)(hs:s.size<=2000)(hT:n<=300+p) :
  Calls prog 233 #[.pointer (some ⟨b,0,none⟩),.slice a n cap] w (MP w b p s T (dk (ai s) (8*s.size) p T)):=by
 obtain⟨i0,hi,a9,ba,bb⟩:=a0s Tryz.infoU8;obtain⟨d,hd⟩:∃d,dk (ai s) (8*s.size) p T=d:=⟨_,rfl⟩;rw[hd];have U:RF w b s p false:=by have:=di hr;rwa[a0j (by omega)]at this
 have F:Hid (MS w b s w (.slice a n cap) T p false):=⟨KU.refl _ _,ho,U⟩;have V:=af (ou b p false s w U hp (by omega));have E:=af (a0b hs (a0b hn (a0b hT hp)));have O:=af hd;clear hn ho hr hs hT hd U;have a0:p+(8-p%8)%8<=8*s.size:=by omega
 have H:Hid (fJ (ai s) p=if ai s/2 ^ p%2 ^ ((8-p%8)%8)=0 then some (p+(8-p%8)%8)else none):=rfl;generalize a7:p+(8-p%8)%8=q1 at *
 have P:Hid (p<=q1):=by show p<=q1;omega
 clear a7 hp;have a2:=af a0;clear a0;go_enter func233,ntmps233;by_cases z:ai s/2 ^ p%2 ^ ((8-p%8)%8)=0
 .
  rw[a0w z]at V;rw[a0e z]at H;clear z;go_wp2_with fail;refine(ae V).mono ?_;rintro e x1 ⟨rfl,W,k1⟩;have t:=af ((ae F).keep1 k1 W);clear k1 W V F;have r:=af (gF b q1 16 false s x1 (ae t).2.2 (fun _=>ae a2) (by have:=ae E;omega) (by omega));rw[a1Z]at r;go_wp2_with fail;refine(ae r).mono ?_;rintro e x2 ⟨rfl,r2,k2⟩;have u:=af ((ae t).keep1 k2 r2);clear k2 r2 r t;have r:=af (gF b (q1+16) 16 _ s x2 (ae u).2.2 (fun h=>by have:=of_decide_eq_false h;omega) (by have:=ae E;omega) (by omega));obtain⟨X,hX⟩:∃X,ai s/2 ^ q1%2 ^ 16=X:=⟨_,rfl⟩;obtain⟨Y,hY⟩:∃Y,ai s/2 ^ (q1+16)%2 ^ 16=Y:=⟨_,rfl⟩;have a3:(X:Int)<=65535:=by
   have:ai s/2 ^ q1%2 ^ 16<65536:=a05 _ (by decide);omega
  have a4:(Y:Int)<=65535:=by
   have:ai s/2 ^ (q1+16)%2 ^ 16<65536:=a05 _ (by decide);omega
  have a5:∃f,(decide (8*s.size<q1+16) || decide (8*s.size<q1+16+16))=f/\f=decide (8*s.size<q1+32):=⟨_,rfl,by rw[a2j];simp;omega⟩;obtain⟨f,al,an⟩:=a5;rw[al,hY]at r;rw[hX];have Hf:=af an;have C:=af (a0b hX hY);clear al an hX hY;go_wp2_with fail;refine(ae r).mono ?_;rintro e x3 ⟨rfl,r3,k3⟩;have j:=af ((ae u).keep1 k3 r3);clear k3 r3 r u;obtain⟨c3,f3⟩:=(ae j).2.2.bad;by_cases o:Y=65535-X
  .
   by_cases x:300<X
   .
    have gI:(300:Int)<(X:Int):=by omega
    have g1:(Y:Int)=65535-(X:Int):=by omega
    have c:Hid (T.length<=300->d=none):=fun _=>by rw[←ae O];exact(BP (ae H) (by rw[(ae C).1];exact x))
    clear o x;have l:=af (ae j).setBad;go_wp2_with fail;generalize x3.setCell ⟨b,2,none⟩ (.bool true)=XW at *
    have g:=af (ae l);have c4:=(ae g).2.2.bad.1
    go_loopw [1,6] (fun v i wr=>v = .slice a n cap/\i = .int .i64 0/\wr=XW) (fun _ _ _=>0)
    case atStart=>exact⟨rfl,rfl,rfl⟩
    case round=>
     obtain⟨rfl,rfl,rfl⟩:=hrel;by_cases h0:0<X
     . go_wp2;go_ret;exact(ae g).end (MR.bad (ae c))
     . go_wp2;go_ret;exact(ae g).end (MR.bad (ae c))
   .
    have gI:¬ (300:Int)<(X:Int):=by omega
    have g1:(Y:Int)=65535-(X:Int):=by omega
    cases f
    .
     have Q:q1+32<=8*s.size:=by have:=ae Hf;have:=of_decide_eq_false this.symm;omega
     have Z:Hid (StI (8*s.size) (ai s) X (q1+32) T d 0 (q1+32) T false):=by
      refine⟨a0h _,a0a _,a0a _,fun _=>⟨Q,a0a _,by have:=ae E;have:=ae P;omega,fun _=>?_,fun h1 h2=>by omega⟩,nofun⟩;rw[←ae O,m8 (ae H) Q,(ae C).1,(ae C).2,a0e o];rfl
     have Hn:=af (ae E).2.1;have aa:Hid (n<=300+p/\p<=8*s.size/\s.size<=2000):=⟨(ae E).2.2.1,(ae E).2.2.2,(ae E).1⟩;have L:Hid (MS w b s x3 (.slice a n cap) T (q1+32) false):=ae j;clear o x Q j;go_wp2_with fail
     go_loopw [1,6] (fun v i wr=>∃(k q:Nat) (R:List UInt8) (f:Bool),i = .int .i64 k/\MS w b s wr v R q f/\StI (8*s.size) (ai s) X (q1+32) T d k q R f) (fun _ i _=>X-(intOf i).toNat)
     case atStart=>exact⟨0,q1+32,T,false,rfl,ae L,ae Z⟩
     case round=>
      obtain⟨k,q,R,f,rfl,I,J⟩:=hrel;clear L Z c3 f3;have bc:=J.1;obtain⟨m,hm⟩:∃m,R.length=m:=⟨_,rfl⟩;obtain⟨va,vc,rfl⟩:=I.2.1.formN hm;obtain⟨c2,f2⟩:=I.2.2.bad;have A:=af I;have B:=af J;have be:m<=20000:=by have:=J.2.2.1;have:=ae aa;have:=ae Hn;omega
      have Hm:=af hm;clear I J hm;by_cases hk:k<X
      .
       have a6:(k:Int)<(X:Int):=by omega
       cases f
       .
        have r:=af (gF b q 8 false s wr (ae A).2.2 (fun _=>((ae B).2.2.2.1 rfl).1) (by have:=ae aa;omega) (by omega));have M:=af ((ae B).next hk);obtain⟨y,hy⟩:∃y,ai s/2 ^ q%2 ^ 8=y:=⟨_,rfl⟩;have bk:y<256:=by rw[←hy];exact a05 _ (by decide)
        have hu:IntKind.u8.wrap (y:Int)=(y:Int):=vm (by omega) (by omega);rw[hy]at r M;clear hy;go_wp2_with fail;refine(ae r).mono ?_;rintro e x5 ⟨rfl,r5,k5⟩;have G:=af ((ae A).keep1 k5 r5);have S:=af ((ae G).2.1.own (ae Hm));have ac:b+1<=x5.heap.size:=(ae G).lt;have bd:Hid (m+1<=maxLen/\(m+1)*1<=140737488355328):=by show _/\_;unfold maxLen;omega
        clear r5 k5 r A c2 f2 B;go_wp2_with (at_builtin;refine a0v _ rfl _ _ 22 rfl (b+1) 5 i0 (.int .u8 0) 1 1 a0S hi a9 ba bb rfl (by decide) (.slice va m vc) _ _ rfl (a0k (ae S) _) ⟨x5.heap.size,0,none⟩ 1 1 [.int .u8 (y:Int)] rfl rfl (bo _ _ rfl _ _) (one_byte _) (ae bd).1 (ae bd).2 (av ac _) ?_;intro v' x6 N D ao;clear ao);have ad:bZ (b+1) x5 x6:=gn D (ae S) (a0a _) ac (bZ.refl _ _);have ab:aK x6 (b+1) v' (R++[cU (y:Int)]):=bO (ae Hm) (by rw[dJ (by omega) (by omega)];exact N);have a1:=af ((ae G).belU ad ab);clear N D ad ab G S;go_wp2_with fail;go_roundw
        case rel=>exact⟨k+1,q+8,_,_,by go_num,ae a1,ae M⟩
        case measure=>simp[intOf];omega
       . go_wp2;go_ret;exact(ae A).end ((ae B).done (by have:=ae P;omega) (.inl rfl))
      .
       have a6:¬ (k:Int)<(X:Int):=by omega
       go_wp2;go_ret;exact(ae A).end ((ae B).done (by have:=ae P;omega) (.inr hk))
    .
     have c:Hid (T.length<=300->d=none):=fun _=>by rw[←ae O];exact lk (ae H) (a3s (ae Hf).symm)
     clear o x;go_wp2_with fail;have g:=j;generalize x3=XW at *
     have c4:=(ae g).2.2.bad.1
     go_loopw [1,6] (fun v i wr=>v = .slice a n cap/\i = .int .i64 0/\wr=XW) (fun _ _ _=>0)
     case atStart=>exact⟨rfl,rfl,rfl⟩
     case round=>
      obtain⟨rfl,rfl,rfl⟩:=hrel;by_cases h0:0<X
      . go_wp2;go_ret;exact(ae g).end (MR.bad (ae c))
      . go_wp2;go_ret;exact(ae g).end (MR.bad (ae c))
  .
   have g1:¬ (Y:Int)=65535-(X:Int):=by omega
   have c:Hid (T.length<=300->d=none):=fun _=>by rw[←ae O];exact(FQ (ae H) (by rw[(ae C).1,(ae C).2];exact o))
   clear o;have l:=af (ae j).setBad;go_wp2_with fail;generalize x3.setCell ⟨b,2,none⟩ (.bool true)=XW at *
   have g:=af (ae l);have c4:=(ae g).2.2.bad.1
   go_loopw [1,6] (fun v i wr=>v = .slice a n cap/\i = .int .i64 0/\wr=XW) (fun _ _ _=>0)
   case atStart=>exact⟨rfl,rfl,rfl⟩
   case round=>
    obtain⟨rfl,rfl,rfl⟩:=hrel;by_cases h0:0<X
    . go_wp2;go_ret;exact(ae g).end (MR.bad (ae c))
    . go_wp2;go_ret;exact(ae g).end (MR.bad (ae c))
 .
  rw[a0j z]at V;rw[a0d z]at H;clear z;go_wp2_with fail;refine(ae V).mono ?_;rintro e x1 ⟨rfl,W,k1⟩;obtain⟨c1,f1⟩:=W.bad;have K:=af ((ae F).keep1 k1 W).setBad;clear k1 W V F;go_wp2_with fail;have t:=af (ae K);generalize x1.setCell ⟨b,2,none⟩ (.bool true)=x1b at *
  clear K c1 f1;have r:=af (gF b q1 16 true s x1b (ae t).2.2 nofun (by have:=ae E;omega) (by omega));rw[a3i]at r;refine(ae r).mono ?_;rintro e x2 ⟨rfl,r2,k2⟩;have u:=af ((ae t).keep1 k2 r2);clear k2 r2 r t;have r:=af (gF b (q1+16) 16 true s x2 (ae u).2.2 nofun (by have:=ae E;omega) (by omega));rw[a3i]at r;obtain⟨X,hX⟩:∃X,ai s/2 ^ q1%2 ^ 16=X:=⟨_,rfl⟩;obtain⟨Y,hY⟩:∃Y,ai s/2 ^ (q1+16)%2 ^ 16=Y:=⟨_,rfl⟩;have a3:(X:Int)<=65535:=by
   have:ai s/2 ^ q1%2 ^ 16<65536:=a05 _ (by decide);omega
  have a4:(Y:Int)<=65535:=by
   have:ai s/2 ^ (q1+16)%2 ^ 16<65536:=a05 _ (by decide);omega
  rw[hY]at r;rw[hX];clear hX hY;go_wp2_with fail;refine(ae r).mono ?_;rintro e x3 ⟨rfl,r3,k3⟩;have j:=af ((ae u).keep1 k3 r3);clear k3 r3 r u;obtain⟨c3,f3⟩:=(ae j).2.2.bad;by_cases o:Y=65535-X
  .
   by_cases x:300<X
   .
    have gI:(300:Int)<(X:Int):=by omega
    have g1:(Y:Int)=65535-(X:Int):=by omega
    have c:Hid (T.length<=300->d=none):=fun _=>by rw[←ae O];exact lj (ae H)
    clear o x;have l:=af (ae j).setBad;go_wp2_with fail;generalize x3.setCell ⟨b,2,none⟩ (.bool true)=XW at *
    have g:=af (ae l);have c4:=(ae g).2.2.bad.1
    go_loopw [1,6] (fun v i wr=>v = .slice a n cap/\i = .int .i64 0/\wr=XW) (fun _ _ _=>0)
    case atStart=>exact⟨rfl,rfl,rfl⟩
    case round=>
     obtain⟨rfl,rfl,rfl⟩:=hrel;by_cases h0:0<X
     . go_wp2;go_ret;exact(ae g).end (MR.bad (ae c))
     . go_wp2;go_ret;exact(ae g).end (MR.bad (ae c))
   .
    have gI:¬ (300:Int)<(X:Int):=by omega
    have g1:(Y:Int)=65535-(X:Int):=by omega
    have c:Hid (T.length<=300->d=none):=fun _=>by rw[←ae O];exact lj (ae H)
    clear o x;go_wp2_with fail;have g:=j;generalize x3=XW at *
    have c4:=(ae g).2.2.bad.1
    go_loopw [1,6] (fun v i wr=>v = .slice a n cap/\i = .int .i64 0/\wr=XW) (fun _ _ _=>0)
    case atStart=>exact⟨rfl,rfl,rfl⟩
    case round=>
     obtain⟨rfl,rfl,rfl⟩:=hrel;by_cases h0:0<X
     . go_wp2;go_ret;exact(ae g).end (MR.bad (ae c))
     . go_wp2;go_ret;exact(ae g).end (MR.bad (ae c))
  .
   have g1:¬ (Y:Int)=65535-(X:Int):=by omega
   have c:Hid (T.length<=300->d=none):=fun _=>by rw[←ae O];exact lj (ae H)
   clear o;have l:=af (ae j).setBad;go_wp2_with fail;generalize x3.setCell ⟨b,2,none⟩ (.bool true)=XW at *
   have g:=af (ae l);have c4:=(ae g).2.2.bad.1
   go_loopw [1,6] (fun v i wr=>v = .slice a n cap/\i = .int .i64 0/\wr=XW) (fun _ _ _=>0)
   case atStart=>exact⟨rfl,rfl,rfl⟩
   case round=>
    obtain⟨rfl,rfl,rfl⟩:=hrel;by_cases h0:0<X
    . go_wp2;go_ret;exact(ae g).end (MR.bad (ae c))
    . go_wp2;go_ret;exact(ae g).end (MR.bad (ae c))
def agG(V sz:Nat)(D:List Int)(k p:Nat)(T:List UInt8):Option (List UInt8×Nat):=(fi V sz D k p).bind fun t=>(fQ T t.1).bind fun x=>some (x,t.2)
def AgP(w:World)(b:Nat)(s:ByteArray)(d:Option (List UInt8×Nat))(e:Ending)(w':World):Prop:=
 KU b w w'/\∃v T' q f,e = .returned v/\aK w' (b+1) v T'/\RF w' b s q f/\d=if f=true then none else some (T',q)
theorem DN(b C n cap k nD a0 bc:Nat)(a ad acd:Option Addr)(s:ByteArray)(T:List UInt8)(D:List Int)(w:World)(hn:T.length=n)(ho:aK w (b+1) (.slice a n cap) T)(hr:Rdr w b s C)(hp:C<=8*s.size)(hs:s.size<=2000)(hT:n<=300)(hk:k<=700)
  (hD:D.length=nD) (ch:ay D=true) (co:∀W,aw b w W->bn W ad D) (ck:∀W,aw b w W->bn W acd (a8 D 15).2) :
  Calls prog 255 #[.pointer (some ⟨b,0,none⟩),.slice a n cap,.int .i64 ((k:Nat)+257),.slice ad nD a0,.slice acd nD bc] w (AgP w b s (agG (ai s) (8*s.size) D k C T)):=by
 have a9:prog.follows .mixedOrders=true:=by kernel_rfl
 obtain⟨d,hd⟩:∃d,agG (ai s) (8*s.size) D k C T=d:=⟨_,rfl⟩;rw[hd];have HD:=af hd;have cm:RF w b s C false:=by have:=di hr;rwa[a0j (by omega)]at this
 have HO:=af ho;have bb:=af cm;have HN:=af (a0b hs (a0b hn hT));have cp:=af hp;have al:=af (a0b hD (a0b ch (a0b co ck)));have ek:(k:Int)+257-257=(k:Int):=by omega
 have cu:(k:Int)<=700:=by omega
 clear hn ho hr hp hs hT hD ch co ck hd cm;go_enter func255,ntmps255;go_wp2_with fail;refine(gV w).mono ?_;rintro e x0 ⟨rfl,o0,b0⟩;have A:=af ((aw.refl b w).later b0 (ae bb).lt);have l:=af ((ae bb).kept (b0.mono (ae bb).lt));clear o0 b0;by_cases a4:k<28
 .
  have b5:(k:Int)<28:=by omega
  have t:=af a4;obtain⟨E1,hE1⟩:∃E,(stF 3 4 k).1=E:=⟨_,rfl⟩;obtain⟨E2,hE2⟩:∃E,(stF 3 4 k).2=E:=⟨_,rfl⟩;have a1:=sX (L:=3) (G:=4) (k:=k) (by omega) (by omega) (by omega) (by omega);rw[hE1,hE2]at a1;have M:(E1:Int)<=200000:=by omega
  have N:(E2:Int)<=14:=by omega
  have z:Hid (E2<=16):=by show E2<=16;omega
  have P:Hid (((stF 3 4 k).1:Int)=(E1:Int)):=by show _=_;rw[hE1]
  have R:Hid (((stF 3 4 k).2:Int)=(E2:Int)):=by show _=_;rw[hE2]
  obtain⟨X,hX⟩:∃X,ai s/2 ^ C%2 ^ E2=X:=⟨_,rfl⟩;have a7:(X:Int)<=65535:=by
   have h1:ai s/2 ^ C%2 ^ E2<2 ^ E2:=a05 _ (a1D _);have h2:2 ^ E2<=2 ^ 16:=a0W (by omega) (by omega);have h3:(2:Nat) ^ 16=65536:=by decide
   omega
  have HX:=af hX;have ao:Hid (IntKind.i64.wrap ((E1:Int)+(X:Int))=(E1:Int)+(X:Int)):=by show _=_;rw[a00];omega
  have y:=af (a0b hE1 hE2);clear a1 hE1 hE2 hX;go_wp2_with fail;go_cut[12] (fun v wx=>v = .int .i64 ((E1+X:Nat):Int)/\aw b w wx/\RF wx b s (C+E2) (decide (8*s.size<C+E2)))
  case first=>
   refine a0H (S:=fun _=>True) a9 trivial (fun _=>?_);refine ag 2 (.int .i64 (k:Nat)) rfl (by kernel_rfl) (fun _ _ _ h=>h) rfl (fun W m=>by go_simp) trivial ?_;refine ag 5 (.pointer (some ⟨b,0,none⟩)) rfl (by kernel_rfl) (fun _ _ _ h=>h) rfl (fun W m=>by go_simp) trivial ?_;refine ag 7 (.int .i64 (k:Nat)) rfl (by kernel_rfl) (fun _ _ _ h=>h) rfl (fun W m=>by go_simp) trivial ?_;refine ah 0 (by kernel_rfl) rfl fun K g=>?_;go_simp;go_at_call 260;refine(gV _).mono ?_;rintro e y1 ⟨rfl,o1,b1⟩;have u:=af ((ae A).drew.later b1 (show b<x0.drew.heap.size from(ae l).lt));have r:=af (RF.kept (w:=x0.drew) (show RF x0.drew b s C false from ae l) (b1.mono (ae l).lt));have ba:=af (o1.rowN rfl);clear o1 b1;refine a0f g _ _ trivial (fun _=>?_);clear g K;refine ah 1 (by kernel_rfl) rfl fun K g=>?_;go_simp;go_at_call 259;refine(iv _ 28 y1 (ae ba)).mono ?_;rintro e y2 ⟨v2,rfl,o2,b2⟩;have J:(iQ).length=28:=jf _ _ _;obtain⟨a2,cg,rfl⟩:=o2.formN J;obtain⟨g2,rfl⟩:=o2.somes (by omega);have o:g2<y2.heap.size:=o2.below.2;have an:Hid (g2≠b):=by show g2≠b;have:=o2.below.1;have:=(ae r).lt;omega
   have c:=(o2.at J (show k<28 from ae t)).1;rw[ys _ (ae t),ae P]at c;have q:=af ((ae u).later b2 (ae r).lt);have f:=af ((ae r).kept (b2.mono (ae r).lt));clear o2 b2 J;refine a0f g _ _ trivial (fun _=>?_);clear g K;refine dL (S':=fun W=>W.cell? ⟨g2,k,none⟩=some (.int .i64 (E1:Nat))) (fun _ _=>trivial) _ _ _ _ ?_;refine a0Q (i:=3) (v:=.pointer (some ⟨g2,k,none⟩)) rfl (by kernel_rfl) (by kernel_rfl) (by kernel_rfl) (fun _ _ _ h=>h) (a0I ⟨by rfl,fun W m=>by go_simp<;>(intro h;omega)⟩) c ?_;refine a0Q (i:=4) (v:=.int .i64 (E1:Nat)) rfl (by kernel_rfl) (by kernel_rfl) (by kernel_rfl) (fun _ _ _ h=>h) (a0I ⟨by rfl,fun W m=>by go_simp⟩) c ?_;refine ah 6 (by kernel_rfl) rfl fun K g=>?_;go_simp;go_at_call 260;refine(gV _).mono ?_;rintro e y3 ⟨rfl,o3,I⟩;have be:=(o3.at rfl (show k<28 from ae t)).1;rw[yt _ (ae t),ae R]at be;have c:=(I.cell (p:=⟨g2,k,none⟩) o).trans c;have V:=af ((ae q).later I (ae f).lt);have Z:=af ((ae f).kept (I.mono (ae f).lt));have O:g2<y3.heap.size:=a0i o I.size;generalize bk:y2.heap.size=g3 at *
   clear o3 I bk;refine a0f g _ _ c (fun _=>?_);clear g K;refine a0Q (i:=8) (v:=.pointer (some ⟨g3,k,none⟩)) rfl (by kernel_rfl) (by kernel_rfl) (by kernel_rfl) (fun _ _ _ h=>h) (a0I ⟨by rfl,fun W m=>by go_simp<;>(intro h;omega)⟩) c ?_;refine ah 9 (by kernel_rfl) rfl fun K g=>?_;go_simp;refine a0f g _ _ c (fun _=>?_);clear g K;refine ah 10 (by kernel_rfl) rfl fun K g=>?_;go_simp;go_at_call 232;have HM:=af (gF b C E2 false s y3 (ae Z) (fun _=>ae cp) (by have:=ae HN;omega) (ae z));rw[a1Z,ae HX]at HM;refine(ae HM).mono ?_;rintro e y4 ⟨rfl,r4,k4⟩;have c:y4.cell? ⟨g2,k,none⟩=some (.int .i64 (E1:Nat)):=(World.cell?_of_block (w:=y3) (k4.2 _ O (ae an)) (a:=⟨g2,k,none⟩)).trans c;have Y:=af ((ae V).trans k4);have B:=af r4;clear r4 k4;refine a0f g _ _ c (fun _=>?_);clear g K;refine a0Q (i:=11) (v:=.int .i64 ((E1+X:Nat):Int)) rfl (by kernel_rfl) (by kernel_rfl) (by kernel_rfl) (fun _ _ _ h=>h) (a0I ⟨by rfl,fun W m=>by go_simp;exact ae ao⟩) c ?_;refine ah 12 (by kernel_rfl) rfl fun K g=>?_;go_simp;refine a0f g _ _ c (fun _=>?_);clear g K;refine a0u (by kernel_rfl) ?_ _;clear HM;go_wp2_with fail
   go_meet
   case rel=>exact⟨rfl,ae Y,ae B⟩
  case rest=>
   obtain⟨rfl,aa,ab⟩:=hcut;clear ao;have HL:=af (a0b (ae y) (ae HX));have cr:((E1+X:Nat):Int)<=300000:=by omega
   obtain⟨LG,hLG⟩:∃L,E1+X=L:=⟨_,rfl⟩;rw[hLG]at cr ⊢;have b7:=af hLG;by_cases hc:C+E2<=8*s.size
   .
    rw[a0j (by omega)]at ab;have a6:Hid (scG (ai s) (8*s.size) 3 4 28 k C=some (LG,C+E2)):=by
     show _=_;unfold scG;rw[a0e (ae t),(ae y).2,ca hc,(ae y).1];simp only[a0g];rw[ae HX,ae b7]
    have H:=af (px ad acd a0 bc nD b (C+E2) D s wc (ae al).1 (ae al).2.1 (by have:=ae HN;omega) (mX ab hc) hc (fun W hW=>(ae al).2.2.1 W (aa.trans hW)) (fun W hW=>(ae al).2.2.2 W (aa.trans hW)));have u:=af aa;clear aa ab hLG M N a7 P R z y HX b7 HL;unfold nn at H;rcases h2:dec D (ai s) (8*s.size) (C+E2)with _|⟨j,q2⟩
    .
     rw[h2]at H;have Hn:Hid (d=none):=by
      show d=none;rw[←ae HD];unfold agG fi;rw[ae a6];simp only[a0g];rw[h2];rfl
     clear h2;go_wp2_with fail;refine(ae H).mono ?_;rintro e x2 ⟨k2,xx,qq,rfl,r2⟩;have q:=af ((ae u).trans k2);have f:=af r2;obtain⟨c2,f2⟩:=r2.bad;have o:=r2.lt;clear r2 k2 u H;go_wp2;go_ret;refine⟨((ae q).trans (bf _ _ _ _)).ku,_,T,_,true,rfl,((ae HO).keep1 (ae q) (a0l _)).keep1 (bf _ _ _ _) (a0l _),(ae f).setBad,?_⟩;rw[ae Hn];rfl
    .
     rw[h2]at H;have bd:=eH h2;obtain⟨jn,hj⟩:=a0r bd.2.2.1;subst hj;have ct:(jn:Int)<=300:=by have:=bC (ae al).2.1;omega
     have H2:=af h2;have cc:=af bd.1;clear h2 bd;go_wp2_with fail;refine(ae H).mono ?_;rintro e x2 ⟨k2,rfl,r2⟩;have q:=af ((ae u).trans k2);have f:Hid (RF x2 b s q2 false):=by have:=di r2;rwa[a0j (by have:=ae cc;omega)]at this
     obtain⟨c2,f2⟩:=(ae f).bad;clear r2 k2 u H A l;go_wp2_with fail;refine(gR x2).mono ?_;rintro e x3 ⟨rfl,o3,I⟩;have A:=af ((ae q).later I (ae f).lt);have l:=af ((ae f).kept (I.mono (ae f).lt));clear o3 I q f c2 f2;by_cases a3:jn<30
     .
      have bs:(jn:Int)<30:=by omega
      have t:=af a3;obtain⟨E1,hE1⟩:∃E,(stF 1 2 jn).1=E:=⟨_,rfl⟩;obtain⟨E2,hE2⟩:∃E,(stF 1 2 jn).2=E:=⟨_,rfl⟩;have a1:=sX (L:=1) (G:=2) (k:=jn) (by omega) (by omega) (by omega) (by omega);rw[hE1,hE2]at a1;have M:(E1:Int)<=200000:=by omega
      have N:(E2:Int)<=14:=by omega
      have z:Hid (E2<=16):=by show E2<=16;omega
      have P:Hid (((stF 1 2 jn).1:Int)=(E1:Int)):=by show _=_;rw[hE1]
      have R:Hid (((stF 1 2 jn).2:Int)=(E2:Int)):=by show _=_;rw[hE2]
      obtain⟨X,hX⟩:∃X,ai s/2 ^ q2%2 ^ E2=X:=⟨_,rfl⟩;have a7:(X:Int)<=65535:=by
       have h1:ai s/2 ^ q2%2 ^ E2<2 ^ E2:=a05 _ (a1D _);have h2:2 ^ E2<=2 ^ 16:=a0W (by omega) (by omega);have h3:(2:Nat) ^ 16=65536:=by decide
       omega
      have HX:=af hX;have ao:Hid (IntKind.i64.wrap ((E1:Int)+(X:Int))=(E1:Int)+(X:Int)):=by show _=_;rw[a00];omega
      have y:=af (a0b hE1 hE2);clear a1 hE1 hE2 hX;go_wp2_with fail;go_cut[13] (fun v wx=>v = .int .i64 ((E1+X:Nat):Int)/\aw b w wx/\RF wx b s (q2+E2) (decide (8*s.size<q2+E2)))
      case first=>
       refine a0H (S:=fun _=>True) a9 trivial (fun _=>?_);refine ag 2 (.int .i64 (jn:Nat)) rfl (by kernel_rfl) (fun _ _ _ h=>h) rfl (fun W m=>by go_simp) trivial ?_;refine ag 5 (.pointer (some ⟨b,0,none⟩)) rfl (by kernel_rfl) (fun _ _ _ h=>h) rfl (fun W m=>by go_simp) trivial ?_;refine ag 7 (.int .i64 (jn:Nat)) rfl (by kernel_rfl) (fun _ _ _ h=>h) rfl (fun W m=>by go_simp) trivial ?_;refine ah 0 (by kernel_rfl) rfl fun K g=>?_;go_simp;go_at_call 261;refine(gR _).mono ?_;rintro e y1 ⟨rfl,o1,b1⟩;have u:=af ((ae A).drew.later b1 (show b<x3.drew.heap.size from(ae l).lt));have r:=af (RF.kept (w:=x3.drew) (show RF x3.drew b s q2 false from ae l) (b1.mono (ae l).lt));have ba:=af (o1.rowN rfl);clear o1 b1;refine a0f g _ _ trivial (fun _=>?_);clear g K;refine ah 1 (by kernel_rfl) rfl fun K g=>?_;go_simp;go_at_call 259;refine(iu _ 30 y1 (ae ba)).mono ?_;rintro e y2 ⟨v2,rfl,o2,b2⟩;have J:(iK).length=30:=jf _ _ _;obtain⟨a2,cg,rfl⟩:=o2.formN J;obtain⟨g2,rfl⟩:=o2.somes (by omega);have o:g2<y2.heap.size:=o2.below.2;have an:Hid (g2≠b):=by show g2≠b;have:=o2.below.1;have:=(ae r).lt;omega
       have c:=(o2.at J (show jn<30 from ae t)).1;rw[wM _ (ae t),ae P]at c;have q:=af ((ae u).later b2 (ae r).lt);have f:=af ((ae r).kept (b2.mono (ae r).lt));clear o2 b2 J;refine a0f g _ _ trivial (fun _=>?_);clear g K;refine dL (S':=fun W=>W.cell? ⟨g2,jn,none⟩=some (.int .i64 (E1:Nat))) (fun _ _=>trivial) _ _ _ _ ?_;refine a0Q (i:=3) (v:=.pointer (some ⟨g2,jn,none⟩)) rfl (by kernel_rfl) (by kernel_rfl) (by kernel_rfl) (fun _ _ _ h=>h) (a0I ⟨by rfl,fun W m=>by go_simp<;>(intro h;omega)⟩) c ?_;refine a0Q (i:=4) (v:=.int .i64 (E1:Nat)) rfl (by kernel_rfl) (by kernel_rfl) (by kernel_rfl) (fun _ _ _ h=>h) (a0I ⟨by rfl,fun W m=>by go_simp⟩) c ?_;refine ah 6 (by kernel_rfl) rfl fun K g=>?_;go_simp;go_at_call 261;refine(gR _).mono ?_;rintro e y3 ⟨rfl,o3,I⟩;have be:=(o3.at rfl (show jn<30 from ae t)).1;rw[wO _ (ae t),ae R]at be;have c:=(I.cell (p:=⟨g2,jn,none⟩) o).trans c;have V:=af ((ae q).later I (ae f).lt);have Z:=af ((ae f).kept (I.mono (ae f).lt));have O:g2<y3.heap.size:=a0i o I.size;generalize bk:y2.heap.size=g3 at *
       clear o3 I bk;refine a0f g _ _ c (fun _=>?_);clear g K;refine a0Q (i:=8) (v:=.pointer (some ⟨g3,jn,none⟩)) rfl (by kernel_rfl) (by kernel_rfl) (by kernel_rfl) (fun _ _ _ h=>h) (a0I ⟨by rfl,fun W m=>by go_simp<;>(intro h;omega)⟩) c ?_;refine ah 9 (by kernel_rfl) rfl fun K g=>?_;go_simp;refine a0f g _ _ c (fun _=>?_);clear g K;refine ah 10 (by kernel_rfl) rfl fun K g=>?_;go_simp;go_at_call 232;have HM:=af (gF b q2 E2 false s y3 (ae Z) (fun _=>ae cc) (by have:=ae HN;omega) (ae z));rw[a1Z,ae HX]at HM;refine(ae HM).mono ?_;rintro e y4 ⟨rfl,r4,k4⟩;have c:y4.cell? ⟨g2,jn,none⟩=some (.int .i64 (E1:Nat)):=(World.cell?_of_block (w:=y3) (k4.2 _ O (ae an)) (a:=⟨g2,jn,none⟩)).trans c;have Y:=af ((ae V).trans k4);have B:=af r4;clear r4 k4;refine a0f g _ _ c (fun _=>?_);clear g K;refine a0Q (i:=11) (v:=.int .i64 ((E1+X:Nat):Int)) rfl (by kernel_rfl) (by kernel_rfl) (by kernel_rfl) (fun _ _ _ h=>h) (a0I ⟨by rfl,fun W m=>by go_simp;exact ae ao⟩) c ?_;refine ah 12 (by kernel_rfl) rfl fun K g=>?_;go_simp;refine a0f g _ _ c (fun _=>?_);clear g K;refine a0u (by kernel_rfl) ?_ _;clear HM;go_wp2_with fail
       go_meet
       case rel=>exact⟨rfl,ae Y,ae B⟩
      case rest=>
       obtain⟨rfl,b4,b6⟩:=hcut;clear ao;have cq:((E1+X:Nat):Int)<=300000:=by omega
       obtain⟨BK,hBK⟩:∃L,E1+X=L:=⟨_,rfl⟩;rw[hBK]at cq ⊢;have a5:Hid (d=if decide (8*s.size<q2+E2)=true then none else(fQ T (0,(LG:Int),(BK:Int))).bind fun x=>some (x,q2+E2)):=by
        show d=_;rw[←ae HD];unfold agG fi;rw[ae a6];simp only[a0g];rw[ae H2];simp only[a0g,a0x];unfold scG;rw[a0e (ae t),(ae y).2,(ae y).1];by_cases c:q2+E2<=8*s.size
        . rw[ca c,a0j (by omega)];simp only[a0g,ae HX,hBK];rfl
        . rw[dZ c,a0w (by omega)];rfl
       generalize decide (8*s.size<q2+E2)=F at *
       generalize q2+E2=Q at *
       have ac:=af (U.l4Add_any (b+1) n cap a T (0,(LG:Int),(BK:Int)) wc (ae HN).2.1 ((ae HO).keep1 b4 (a0l _)) (by have:=ae HN;omega) b6.lt);have V:=af b4;have Z:=af b6;clear b4 b6 hBK M N a7 P R z y HX a6 H2;simp only at ac;go_wp2_with fail;refine(ae ac).mono ?_;rintro e x4 ⟨v,T2,rfl,o4,h4,u4⟩;have B:=af ((ae Z).kept u4.1);have Y:Hid (KU b w x4):=(ae V).ku.trans ⟨u4.1.mono (a1k _),fun j hj _ hn=>u4.2 j hj hn⟩;have b8:=af o4;obtain⟨c4,f4⟩:=(ae B).bad;have cs:=(ae B).lt;clear o4 u4 ac V Z;rcases hA:fQ T (0,(LG:Int),(BK:Int))with _|T3
       . rw[hA]at a5;simp only[Option.isSome_none];clear hA h4;go_wp2;go_ret;refine⟨(ae Y).trans (bf _ _ _ _).ku,_,T2,_,true,rfl,(ae b8).keep1 (bf _ _ _ _) (a0l _),(ae B).setBad,?_⟩;rw[ae a5];cases F<;>rfl
       . rw[hA]at a5 h4;simp only[Option.isSome_some,true_implies,a0m]at h4 ⊢;clear hA;go_wp2;go_ret;refine⟨ae Y,_,T2,Q,F,rfl,ae b8,ae B,?_⟩;rw[ae a5,h4];rfl
     .
      have bs:¬ (jn:Int)<30:=by omega
      have Hn:Hid (d=none):=by
       show d=none;rw[←ae HD];unfold agG fi;rw[ae a6];simp only[a0g];rw[ae H2];simp only[a0g,a0x];unfold scG;rw[a0d a3];rfl
      obtain⟨c3,f3⟩:=(ae l).bad;have O:=(ae l).lt;clear a3;go_wp2;go_ret;refine⟨((ae A).trans (bf _ _ _ _)).ku,_,T,_,true,rfl,((ae HO).keep1 (ae A) (a0l _)).keep1 (bf _ _ _ _) (a0l _),(ae l).setBad,?_⟩;rw[ae Hn];rfl
   .
    rw[a0w (by omega)]at ab;have Hn:Hid (d=none):=by
     show d=none;rw[←ae HD];unfold agG fi scG;rw[a0e (ae t),(ae y).2,dZ hc];rfl
    have u:=af aa;have r:=af ab;clear aa ab hLG M N a7 P R z y HX;go_wp2_with fail;refine(BV ad acd a0 bc nD b _ s wc (ae r)).mono ?_;rintro e x2 ⟨rfl,r2,k2⟩;have q:=af ((ae u).trans k2);have f:=af r2;obtain⟨c2,f2⟩:=r2.bad;have o:=r2.lt;clear r2 k2 u r;go_wp2;go_ret;refine⟨((ae q).trans (bf _ _ _ _)).ku,_,T,_,true,rfl,((ae HO).keep1 (ae q) (a0l _)).keep1 (bf _ _ _ _) (a0l _),(ae f).setBad,?_⟩;rw[ae Hn];rfl
 .
  have b5:¬ (k:Int)<28:=by omega
  have Hn:Hid (d=none):=by
   show d=none;rw[←ae HD];unfold agG fi scG;rw[a0d a4];rfl
  obtain⟨c2,f2⟩:=(ae l).bad;have o:=(ae l).lt;clear a4;go_wp2;go_ret;refine⟨((ae A).trans (bf _ _ _ _)).ku,_,T,_,true,rfl,((ae HO).keep1 (ae A) (a0l _)).keep1 (bf _ _ _ _) (a0l _),(ae l).setBad,?_⟩;rw[ae Hn];rfl
def oH(b sz:Nat)(w:World):Nat:=match w.cell? ⟨b,2,none⟩with
 | some (.bool true)=>0
 | _=>sz+1-jU b w
theorem RF.far(h:RF w b s p f):oH b (8*s.size) w=if f=true then 0 else 8*s.size+1-min p (8*s.size):=by
 unfold oH jU;rw[h.bad.1,h.2.1];cases f
 . simp[intOf]
 . rfl
def TmI(b:Nat)(s:ByteArray)(L D:List Int)(g1 g2 p:Nat)(d:Option (List UInt8×Nat))(w:World)(v:Value)(x:World):Prop:=
 ∃(q:Nat) (R:List UInt8) (f:Bool),MS w b s x v R q f/\bT x (b+1) (some ⟨g1,0,none⟩) (a8 L 15).2/\bT x (b+1) (some ⟨g2,0,none⟩) (a8 D 15).2/\(f=false->R.length<=400)/\(f=false->q<=8*s.size/\p<=q)/\(f=false->R.length<=300->gx (ai s) (8*s.size) L D q R=d)/\((f=true∨300<R.length)->d=none)
theorem bT.belU{base:Nat}(h:bT w base a l)(b:bZ base w w'):bT w' base a l:=h.moved b.1.size (fun g _ c d=>b.2 g c d)
theorem Ks: ((oneG V sz D ((kk:Int)+257) q).bind fun t=>(dT R t.1).bind fun T'=>gx V sz L D t.2 T')=(agG V sz D kk q R).bind fun x=>if x.1.length<=300 then gx V sz L D x.2 x.1 else none:=by
 have e:oneG V sz D ((kk:Int)+257) q=fi V sz D kk q:=by
  unfold oneG;rw[a0d (by omega),show((kk:Int)+257).toNat-257=kk by omega]
 rw[e];unfold agG;rcases fi V sz D kk q with _|⟨t,r⟩
 . rfl
 .
  simp only[a0g];unfold dT;rcases fQ R t with _|x
  . rfl
  .
   simp only[a0g]
   split<;>rfl
theorem AW{t:Tk}(h:isK t=true):3<=t.2.1/\t.2.1<=60/\1<=t.2.2/\t.2.2<=250:=by
 unfold isK inB at h;simp only[a0n,a0E]at h;omega
theorem MM(h:agG V sz D kk q R=some (T',q')):T'.length<=R.length+100:=by
 unfold agG at h;rcases a:fi V sz D kk q with _|⟨t,r⟩
 . rw[a]at h;cases h
 rw[a]at h;simp only[a0g]at h;rcases h2:fQ R t with _|x
 . rw[h2]at h;cases h
 rw[h2]at h;simp only[a0g,a0m,a0X]at h;obtain⟨rfl,_⟩:=h;unfold fQ at h2
 split at h2
 . simp only[a0m]at h2;subst h2;simp
 .
  split at h2
  . rename_i hK;simp only[a0n]at hK;have:=AW hK.1;simp only[a0m]at h2;subst h2;rw[jW];omega
  . cases h2
theorem MB(h:agG V sz D kk q R=some (T',q')):q'<=sz/\q<=q':=by
 unfold agG at h;rcases a:fi V sz D kk q with _|⟨t,r⟩
 . rw[a]at h;cases h
 rw[a]at h;simp only[a0g]at h;rcases h2:fQ R t with _|x
 . rw[h2]at h;cases h
 rw[h2]at h;simp only[a0g,a0m,a0X]at h;obtain⟨_,rfl⟩:=h;exact wN a
theorem zE(b p n cap nL A nD z:Nat)(a al ad:Option Addr)(s:ByteArray)(T:List UInt8)(L D:List Int)(w:World)(hn:T.length=n)(ho:aK w (b+1) (.slice a n cap) T)(hr:Rdr w b s p)(hp:p<=8*s.size)(hs:s.size<=2000)(hT:n<=300)
  (hL:L.length=nL) (hD:D.length=nD) (okL:ay L=true) (okD:ay D=true) (jL:bT w (b+1) al L) (jD:bT w (b+1) ad D) :
  Calls prog 234 #[.pointer (some ⟨b,0,none⟩),.slice a n cap,.slice al nL A,.slice ad nD z] w (MP w b p s T (gx (ai s) (8*s.size) L D p T)):=by
 obtain⟨i0,hi,b0,b3,b4⟩:=a0s Tryz.infoU8;obtain⟨d,hd⟩:∃d,gx (ai s) (8*s.size) L D p T=d:=⟨_,rfl⟩;rw[hd];have a7:=hr.lt;have be:RF w b s p false:=by have:=di hr;rwa[a0j (by omega)]at this
 have lL:=bC okL;have lD:=bC okD;have t:=af (a0b hs (a0b okL (a0b okD (a0b hL (a0b hD (a0b hn hT))))));have H:Hid (MS w b s w (.slice a n cap) T p false):=⟨KU.refl _ _,ho,be⟩;have HJ:=af (a0b jL jD);have HD:=af hd;have Hp:=af hp;have C1:=af (dp al A nL L w hL jL.1 (by omega));clear hn ho hr hp hs hT hL hD okL okD jL jD hd be;go_enter func234,ntmps234;go_wp2_with fail;refine(ae C1).mono ?_;rintro e x1 ⟨rfl,o1,b1⟩;have C2:=af (dp ad z nD D x1 (ae t).2.2.2.2.1 ((ae HJ).2.later b1).1 (by have:=(ae t).2.2.2.2.1;omega));have Y:(a8 L 15).2.length=nL:=by rw[bK];exact(ae t).2.2.2.1
 have J1:=af ((bU Y (o1.own Y)).mono (b':=b+1) a7);have F:=af b1;clear o1 b1 C1;go_wp2_with fail;refine(ae C2).mono ?_;rintro e x2 ⟨rfl,o2,b2⟩;have Z:(a8 D 15).2.length=nD:=by rw[bK];exact(ae t).2.2.2.2.1
 have N:b+1<=x1.heap.size:=a0G a7 (ae F).size;have J2:=af ((bU Z (o2.own Z)).mono (b':=b+1) N);have J1':=af ((ae J1).later b2);have hB:Below w.heap.size w x2:=(ae F).trans (b2.mono (ae F).size);generalize x1.heap.size=g2 at *
 generalize a3:w.heap.size=g1 at *
 have an:MS w b s x2 (.slice a n cap) T p false:=⟨(ae H).1.later (by rw[a3];exact hB) (by omega),(ae H).2.1.later hB (by omega),(ae H).2.2.kept (hB.mono (by omega))⟩;have h0:(false=true∨300<T.length)->d=none:=by
  rintro(h|h)
  . cases h
  . have:=ae t;omega
 have HI:Hid (TmI b s L D g1 g2 p d w (.slice a n cap) x2):=⟨p,T,false,an,ae J1',ae J2,fun _=>by have:=ae t;omega,fun _=>⟨ae Hp,a0a _⟩,fun _ _=>ae HD,h0⟩;have HW:Hid (∀W,KU b w W->bT W (b+1) al L/\bT W (b+1) ad D):=fun W hW=>⟨(ae HJ).1.ku hW (a0l _),(ae HJ).2.ku hW (a0l _)⟩;clear h0 o2 b2 C2 hB an H F J1 J1' J2 Y Z HD HJ N a3;go_wp2_with fail
 go_loopw [1,11] (fun v _ wr=>TmI b s L D g1 g2 p d w v wr) (fun _ _ wr=>oH b (8*s.size) wr)
 case atStart=>exact ae HI
 case round=>
  obtain⟨q,R,f,E,j1,j2,ac,hq,j,bc⟩:=hrel;clear HI;obtain⟨m,hm⟩:∃m,R.length=m:=⟨_,rfl⟩;obtain⟨va,vc,rfl⟩:=E.2.1.formN hm;obtain⟨c2,f2⟩:=E.2.2.bad;have g:=af E;have I:=af (a0b j1 (a0b j2 (a0b hq (a0b j bc))));have x:=af hm;have bk:=af ac;have HF:=af E.2.2.far;clear E j1 j2 hq j bc ac hm;cases f
  .
   have b6:(m:Int)<=400:=by have:=ae bk rfl;have:=ae x;omega
   by_cases a9:m<=300
   .
    have ba:(m:Int)<=300:=by omega
    have hW:=ae HW wr (ae g).1;have hq:=(ae I).2.2.1 rfl;have j:=(ae I).2.2.2.1 rfl (by rw[ae x];exact a9);have i:=af (px al (some ⟨g1,0,none⟩) A nL nL b q L s wr (ae t).2.2.2.1 (ae t).2.1 (by have:=ae t;omega) (mX (ae g).2.2 hq.1) hq.1 (fun W h=>(hW.1.keep1 h (a0l _)).1) (fun W h=>((ae I).1.keep1 h (a0l _)).1));have Hq:=af hq;clear hW hq;unfold nn at i;rcases J:dec L (ai s) (8*s.size) q with _|⟨k,P⟩
    . rw[J]at i;rw[vg J]at j;have Hn:Hid (d=none):=j.symm;clear J j;go_wp2_with fail;refine(ae i).mono ?_;rintro e x3 ⟨r,xx,qq,rfl,u⟩;have c:=af ((ae g).keep1 r u);obtain⟨c3,f3⟩:=u.bad;clear r u i g c2 f2;go_wp2;go_ret;exact(ae c).end (MR.bad (fun _=>ae Hn))
    .
     rw[J]at i;have B:=eH J;have a5:k<=300:=by have:=bC (ae t).2.1;omega
     have V:=B.2.2.1;have l:=af (a0b B.1 B.2.1);by_cases hk:k=256
     .
      subst hk;rw[zB J]at j;have Q:=af j;clear J j B;go_wp2_with fail;refine(ae i).mono ?_;rintro e x3 ⟨r,rfl,u⟩;have o:RF x3 b s P false:=by have:=di u;rwa[a0j (by have:=ae l;omega)]at this
      have c:=af ((ae g).keep1 r o);obtain⟨c3,f3⟩:=o.bad;clear r u o i g c2 f2;go_wp2;go_ret;refine(ae c).end ⟨fun _=>⟨(ae l).1,by have:=ae l;have:=ae Hq;omega,by rw[ae x];omega⟩,fun _ _ _=>(ae Q).symm,fun _ h=>?_,fun h=>by have:=ae t;omega⟩;rcases h with h|h
      . cases h
      . rw[ae x]at h;omega
     .
      rw[vh J hk]at j;have Q:=af j;clear J j B;obtain⟨y,hy⟩:=a0r V;subst hy;have a6:¬ (y:Int)=256:=hk;by_cases X:y<256
      .
       have a4:(y:Int)<256:=by omega
       have hu:IntKind.u8.wrap (y:Int)=(y:Int):=vm (by omega) (by omega);have G:Hid ((if m+1<=300 then gx (ai s) (8*s.size) L D P (R++[cU (y:Int)])else none)=d):=by
        show _=d;rw[←ae Q];have e1:oneG (ai s) (8*s.size) D (y:Int) P=some (((y:Int),0,0),P):=by unfold oneG;rw[a0e a4]
        rw[e1];simp only[a0g];rw[lv R y X,ae x]
        split<;>rfl
       clear hk X V Q;go_wp2_with fail;refine(ae i).mono ?_;rintro e x3 ⟨r,rfl,u⟩;have o:RF x3 b s P false:=by have:=di u;rwa[a0j (by have:=ae l;omega)]at this
       have c:=af ((ae g).keep1 r o);obtain⟨c3,f3⟩:=o.bad;have J3:=af (a0b ((ae I).1.keep1 r (a0l _)) ((ae I).2.1.keep1 r (a0l _)));have aa:=af ((ae c).2.1.own (ae x));have a2:b+1<=x3.heap.size:=(ae c).lt;have bd:Hid (m+1<=maxLen/\(m+1)*1<=140737488355328):=by show _/\_;unfold maxLen;omega
       clear r u o i g c2 f2;go_wp2_with (at_builtin;refine a0v _ rfl _ _ 22 rfl (b+1) 5 i0 (.int .u8 0) 1 1 a0S hi b0 b3 b4 rfl (by decide) (.slice va m vc) _ _ rfl (a0k (ae aa) _) ⟨x3.heap.size,0,none⟩ 1 1 [.int .u8 (y:Int)] rfl rfl (bo _ _ rfl _ _) (one_byte _) (ae bd).1 (ae bd).2 (av a2 _) ?_;intro v' x6 O C bb;clear bb);have K:bZ (b+1) x3 x6:=gn C (ae aa) (a0a _) a2 (bZ.refl _ _);have a1:aK x6 (b+1) v' (R++[cU (y:Int)]):=bO (ae x) (by rw[dJ (by omega) (by omega)];exact O);have U:=(ae c).belU K a1;have bs:(R++[cU (y:Int)]).length=m+1:=by rw[a0o,ae x];rfl
       have HI:Hid (TmI b s L D g1 g2 p d w v' x6):=by
        refine⟨P,_,false,U,(ae J3).1.belU K,(ae J3).2.belU K,fun _=>by omega,fun _=>⟨(ae l).1,by have:=ae l;have:=ae Hq;omega⟩,fun _ h=>?_,fun h=>?_⟩
        . have:=ae G;rwa[a0e (by omega)]at this
        .
         have:=ae G;rcases h with h|h
         . cases h
         . rw[a0d (by omega)]at this;exact this.symm
       have S:=af U.2.2.far;clear O C K a1 U c aa J3 bs;go_wp2_with fail;go_roundw
       case rel=>exact ae HI
       case measure=>
        rw[ae S,ae HF];have:=ae l;have:=ae Hq;simp only[a1e,a1f];omega
      .
       obtain⟨kk,ey⟩:∃kk:Nat,(y:Int)=(kk:Int)+257:=⟨y-257,by omega⟩;rw[ey]at i Q a5 a6;have b5:(kk:Int)<=43:=by omega
       have G:=af (Ks.symm.trans (ae Q));clear hk X V Q ey a5;go_wp2_with fail;refine(ae i).mono ?_;rintro e x3 ⟨r,rfl,u⟩;have o:RF x3 b s P false:=by have:=di u;rwa[a0j (by have:=ae l;omega)]at this
       have c:=af ((ae g).keep1 r o);obtain⟨c3,f3⟩:=o.bad;have J3:=af (a0b ((ae I).1.keep1 r (a0l _)) ((ae I).2.1.keep1 r (a0l _)));have a0:=ae HW x3 (ae c).1;have ab:=af (DN b P m vc kk nD z nD va ad (some ⟨g2,0,none⟩) s R D x3 (ae x) (ae c).2.1 u (ae l).1 (ae t).1 a9 (by omega) (ae t).2.2.2.2.1 (ae t).2.2.1 (fun W h=>(a0.2.keep1 h (a0l _)).1) (fun W h=>((ae J3).2.keep1 h (a0l _)).1));clear r u o i g c2 f2 a0;go_wp2_with fail;refine(ae ab).mono ?_;rintro e x4 ⟨k4,v4,T4,q4,f4,rfl,o4,r4,e4⟩;have ao:MS w b s x4 v4 T4 q4 f4:=⟨(ae c).1.trans k4,o4,r4⟩;have HI:Hid (TmI b s L D g1 g2 p d w v4 x4):=by
        have M:=ae G;rw[e4]at M;refine⟨q4,T4,f4,ao,(ae J3).1.ku k4 (a0l _),(ae J3).2.ku k4 (a0l _),fun h=>?_,fun h=>?_,fun h h2=>?_,fun h=>?_⟩
        . rw[h]at e4;have:=MM e4;rw[ae x]at this;omega
        . rw[h]at e4;have:=MB e4;have:=ae l;have:=ae Hq;omega
        . rw[h]at M;simp only[a1e,a1f,a0g]at M;rwa[a0e h2]at M
        .
         cases f4
         .
          rcases h with h|h
          . cases h
          . simp only[a1e,a1f,a0g]at M;rw[a0d (by omega)]at M;exact M.symm
         . exact M.symm
       have S:Hid (oH b (8*s.size) x4<oH b (8*s.size) wr):=by
        show _<_;rw[r4.far,ae HF];have:=ae l;have:=ae Hq;cases f4
        . have:=MB e4;simp only[a1e,a1f];omega
        . simp only[a09,a1e,a1f];omega
       clear k4 o4 r4 e4 ao c J3 ab c3 f3;go_wp2_with fail;go_roundw
       case rel=>exact ae HI
       case measure=>exact ae S
   .
    have ba:¬ (m:Int)<=300:=by omega
    have Hn:Hid (d=none):=(ae I).2.2.2.2 (.inr (by rw[ae x];omega));go_wp2;go_ret;exact((ae g).setBad).end (MR.bad (fun _=>ae Hn))
  . have Hn:Hid (d=none):=(ae I).2.2.2.2 (.inl rfl);go_wp2;go_ret;exact((ae g).setBad).end (MR.bad (fun _=>ae Hn))
theorem zD(b p n cap nL j nD i:Nat)(a al ad:Option Addr)(s:ByteArray)(T:List UInt8)(L D:List Int)(d:Option (List UInt8×Nat))(w:World)(E:T.length=n)(G:aK w (b+1) (.slice a n cap) T)(r:Rdr w b s p)(K:p<=8*s.size)(B:300<n)(q:n<=100000)
  (A:L.length=nL) (z:D.length=nD) (okL:ay L=true) (okD:ay D=true) (jL:bT w (b+1) al L) (jD:bT w (b+1) ad D) :
  Calls prog 234 #[.pointer (some ⟨b,0,none⟩),.slice a n cap,.slice al nL j,.slice ad nD i] w (MP w b p s T d):=by
 have k:=r.lt;have l:RF w b s p false:=by have:=di r;rwa[a0j (by omega)]at this
 have lL:=bC okL;have lD:=bC okD;have f:Hid (MS w b s w (.slice a n cap) T p false):=⟨KU.refl _ _,G,l⟩;have t:=af (dp al j nL L w A jL.1 (by omega));have u:=af (fun W (I:Below w.heap.size w W)=>dp ad i nD D W z (jD.later I).1 (by omega));have H:=af (a0b E B);have J:¬ (n:Int)<=300:=by omega
 have F:(n:Int)<=100000:=by omega
 clear E G r K B q A z okL okD jL jD l;go_enter func234,ntmps234;go_wp2_with fail;refine(ae t).mono ?_;rintro e x1 ⟨rfl,o1,x⟩;have c:=af x;clear o1 x t;go_wp2_with fail;refine(ae u x1 (ae c)).mono ?_;rintro e x2 ⟨rfl,o2,y⟩;have m:Below w.heap.size w x2:=(ae c).trans (y.mono (ae c).size);have g:MS w b s x2 (.slice a n cap) T p false:=⟨(ae f).1.later m k,(ae f).2.1.later m (a0a _),(ae f).2.2.kept (m.mono k)⟩;have o:=af g;obtain⟨c2,f2⟩:=g.2.2.bad;have C:=g.lt;clear o2 y u m g f c;go_wp2_with fail
 go_loopw [1,11] (fun v _ wr=>v = .slice a n cap/\wr=x2) (fun _ _ _=>0)
 case atStart=>exact⟨rfl,rfl⟩
 case round=>
  obtain⟨rfl,rfl⟩:=hrel;go_wp2;go_ret;exact((ae o).setBad).end (MR.bad (fun h=>by have:=ae H;omega))
structure KI (b B:Nat) (w w':World):Prop where
 below:Below b w w'
 keep:∀j,j<B->j≠b->j<w.heap.size->w'.heap[j]?=w.heap[j]?
theorem KI.refl(b B:Nat)(w:World):KI b B w w:=⟨a0c _ _,fun _ _ _ _=>rfl⟩
theorem KI.trans(h:KI b B w w1)(k:KI b B w1 w2):KI b B w w2:=⟨h.1.trans k.1,fun j a h2 c=>(k.2 j a h2 (a0i c h.1.size)).trans (h.2 j a h2 c)⟩
theorem aw.ki(h:aw b w w')(B:Nat):KI b B w w':=⟨h.1,fun j _ a c=>h.2 j c a⟩
def NS(w:World)(b B:Nat)(s:ByteArray)(x:World)(v:Value)(A:List Int)(q:Nat)(f:Bool):Prop:=KI b B w x/\ax x B v A/\RF x b s q f/\B<=x.heap.size
theorem NS.keep1{f':Bool}(h:NS w b B s x v A q f)(hb:b<B)(a:aw b x x')(c:RF x' b s q' f'):NS w b B s x' v A q' f':=⟨h.1.trans (a.ki B),h.2.1.keep1' a hb,c,a0G h.2.2.2 a.1.size⟩
theorem NS.setBad(h:NS w b B s x v A q f)(hb:b<B):NS w b B s (x.setCell ⟨b,2,none⟩ (.bool true)) v A q true:=h.keep1 hb (bf _ _ _ _) h.2.2.1.setBad
theorem NS.grown{A':List Int}{o:Obj}(h:NS w b B s x v A q f)(hb:b<B)(d:(x.alloc o).grownBy x' v.ownBlock)(m:ax x' B v' A'):NS w b B s x' v' A' q f:=by
 have g:∀j,j<B->some j≠v.ownBlock:=fun j p e=>by
  have:=(a0p h.2.1 j e.symm).1;omega
 have l:∀j,j<B->j<x.heap.size->x'.heap[j]?=x.heap[j]?:=fun j c h2=>(d.block j (by simp;omega) (g j c)).trans (a2m x o j h2);have n:x.heap.size<=x'.heap.size:=by have:=d.size;simp at this;omega
 have a:Below (b+1) x x':=((a0c _ x).alloc (by have:=h.2.2.2;omega) o).grown d (by have:=h.2.2.2;simp;omega) (fun k e=>by have:=(a0p h.2.1 k e).1;omega);exact⟨h.1.trans ⟨a.mono (a1k _),fun j c _ i=>l j c i⟩,m,h.2.2.1.kept a,a0G h.2.2.2 n⟩
def MnP(w:World)(b B q:Nat)(s:ByteArray)(A:List Int)(k:Int)(f:Bool)(e:Ending)(w':World):Prop:=
 ∃v A' q' f',e = .returned v/\NS w b B s w' v A' q' f'/\(f=true->f'=true)/\(f=false->dm (ai s) (8*s.size) A k q=if f'=true then none else some (A',q'))
theorem yx(b B q n cap:Nat)(a:Option Addr)(s:ByteArray)(A:List Int)(k:Int)(f:Bool)(w:World)(hn:A.length=n)(al:n<=600)(h:NS w b B s w (.slice a n cap) A q f)(hb:b<B)(hf:f=false->q<=8*s.size)(hs:s.size<=2000) :
  Calls prog 258 #[.pointer (some ⟨b,0,none⟩),.slice a n cap,.int .i64 k] w (MnP w b B q s A k f):=by
 obtain⟨i0,hi,W,X,Y⟩:=a0s Tryz.infoInt;have u:=af h;have x:=af (a0b hn (a0b al (a0b hb hs)));have HF:=af hf;have a4:(n:Int)<=600:=by omega
 obtain⟨c0,f0⟩:=h.2.2.1.bad;clear h hn al hb hf hs;go_enter func258,ntmps258;by_cases O:k=16
 .
  subst O;by_cases h0:n=0
  .
   have ad:(n:Int)=0:=by omega
   have hz:Hid (dm (ai s) (8*s.size) A 16 q=none):=by show _=_;unfold dm;rw[a0e rfl,a0e (by rw[(ae x).1];exact h0)]
   have Z:=af ((ae u).setBad (ae x).2.2.1);clear h0;go_wp2_with fail;generalize w.setCell ⟨b,2,none⟩ (.bool true)=XW at *
   have c4:=(ae Z).2.2.1.bad.1
   go_loopw [1,9] (fun v i wr=>v = .slice a n cap/\i = .int .i64 0/\wr=XW) (fun _ _ _=>0)
   case atStart=>exact⟨by first|rfl|(rw[ad])|simp[ad],rfl,rfl⟩
   case round=>
    obtain⟨rfl,rfl,rfl⟩:=hrel;go_wp2;go_ret;exact⟨_,_,_,true,rfl,ae Z,fun _=>rfl,fun _=>ae hz⟩
  .
   obtain⟨g,rfl⟩:=(ae u).2.1.somes (by rw[(ae x).1];omega);obtain⟨m1,hm1⟩:∃m,n-1=m:=⟨_,rfl⟩;have a3:(n:Int)-1=(m1:Int):=by omega
   have a1:(m1:Int)<(n:Int):=by omega
   have ao:Hid (A.getD (A.length-1) 0=A.getD m1 0):=by show _=_;rw[(ae x).1,hm1]
   have cL:=((ae u).2.1.at (ae x).1 (show m1<n by omega)).1;have Hz:Hid (¬ A.length=0):=by show ¬ _;rw[(ae x).1];exact h0
   clear h0 hm1;generalize A.getD m1 0=L at *
   have P:=af (gF b q 2 f s w (ae u).2.2.1 (ae HF) (by have:=ae x;omega) (by omega));obtain⟨y,hy⟩:∃y,ai s/2 ^ q%2 ^ 2=y:=⟨_,rfl⟩;have an:(y:Int)<=3:=by omega
   obtain⟨CN,hCN⟩:∃c,3+y=c:=⟨_,rfl⟩;obtain⟨F,I⟩:∃F,(f || decide (8*s.size<q+2))=F:=⟨_,rfl⟩;have R:Hid ((f=true->F=true)/\(f=false->dm (ai s) (8*s.size) A 16 q=if F=true then none else some (A++List.replicate CN L,q+2))):=by
    refine⟨fun h=>by rw[←I,h];rfl,fun h=>?_⟩;rw[←I,h,a1Z];unfold dm;rw[a0e rfl,a0d (ae Hz),ae ao];by_cases J:q+2<=8*s.size
    . rw[ca J,a0j (by omega),hy];simp only[a0g];rw[hCN];rfl
    . rw[dZ J,a0w (by omega)];rfl
   have eC:(3:Int)+(y:Int)=(CN:Int):=by omega
   rw[I,hy]at P;clear hy I hCN;go_wp2_with fail;refine(ae P).mono ?_;rintro e XW ⟨rfl,r1,k1⟩;have t:=af ((ae u).keep1 (ae x).2.2.1 k1 r1);generalize hQ:q+2=Q at *
   clear k1 r1 P u c0 f0 hQ;go_wp2_with fail;have c4:=(ae t).2.2.1.bad.1
   go_loopw [1,9] (fun v i wr=>∃j:Nat,j<=CN/\i = .int .i64 j/\(F=true->j=0)/\NS w b B s wr v (A++List.replicate j L) Q F) (fun _ i _=>CN-(intOf i).toNat)
   case atStart=>exact⟨0,a0h _,rfl,fun _=>rfl,by rw[a3e,a1r];exact ae t⟩
   case round=>
    obtain⟨j,hj,rfl,D,o⟩:=hrel;clear t c4;obtain⟨m,hm⟩:∃m,(A++List.replicate j L).length=m:=⟨_,rfl⟩;have ab:m<=900:=by rw[←hm,a0o,a0A,(ae x).1];have:=(ae x).2.1;omega
    obtain⟨va,vc,rfl⟩:=o.2.1.formN hm;obtain⟨c5,f5⟩:=o.2.2.1.bad;have S:=af hm;have l:=af o;have aa:=af D;clear o hm D;have p:Hid ((F=true∨¬ j<CN)->MnP w b B q s A 16 f (.returned (.slice va m vc)) wr):=by
     intro J;refine⟨_,_,Q,F,rfl,ae l,(ae R).1,fun M=>?_⟩;rw[(ae R).2 M];cases I:F
     .
      have:j=CN:=by
       rcases J with h|h
       . rw[I]at h;cases h
       . omega
      rw[this]
     . rfl
    by_cases E:j<CN
    .
     have G:(j:Int)<(CN:Int):=by omega
     cases F
     .
      have N:=af ((ae l).2.1.own (ae S));have K:B<=wr.heap.size:=(ae l).2.2.2;have T:Hid (m+1<=maxLen/\(m+1)*8<=140737488355328):=by show _/\_;unfold maxLen;omega
      go_wp2_with (at_builtin;refine a0v _ rfl _ _ 146 rfl B 3 i0 (.int .i64 0) 1 8 a0L hi W X Y rfl (by decide) (.slice va m vc) _ _ rfl (a0k (ae N) _) ⟨wr.heap.size,0,none⟩ 1 1 [.int .i64 L] rfl rfl (bo _ _ rfl _ _) (eZ _) (ae T).1 (ae T).2 (av K _) ?_;intro v' x6 r d H;clear H);have C:ax x6 B v' (A++List.replicate (j+1) L):=by
       have:=cF (ae S) r;rw[a0U,←a3c]at this;exact this
      have z:=af ((ae l).grown (ae x).2.2.1 d C);clear r d C;go_wp2_with fail;go_roundw
      case rel=>first|exact⟨j+1,by omega,by go_num,nofun,ae z⟩|exact⟨j+1,by omega,by go_num,ae z⟩
      case measure=>simp[intOf];omega
     . go_wp2;go_ret;exact ae p (a0I (by simp))
    .
     have G:¬ (j:Int)<(CN:Int):=by omega
     go_wp2;go_ret;exact ae p (.inr E)
 .
  have ac:¬ k=16:=O;by_cases U:k=17
  .
   subst U;clear O ac;have P:=af (gF b q 3 f s w (ae u).2.2.1 (ae HF) (by have:=ae x;omega) (by omega));obtain⟨y,hy⟩:∃y,ai s/2 ^ q%2 ^ 3=y:=⟨_,rfl⟩;have an:(y:Int)<=7:=by omega
   obtain⟨CN,hCN⟩:∃c,3+y=c:=⟨_,rfl⟩;obtain⟨F,I⟩:∃F,(f || decide (8*s.size<q+3))=F:=⟨_,rfl⟩;have R:Hid ((f=true->F=true)/\(f=false->dm (ai s) (8*s.size) A 17 q=if F=true then none else some (A++List.replicate CN 0,q+3))):=by
    refine⟨fun h=>by rw[←I,h];rfl,fun h=>?_⟩;rw[←I,h,a1Z];unfold dm;rw[a0d (by decide),a0e rfl];by_cases J:q+3<=8*s.size
    . rw[ca J,a0j (by omega),hy];simp only[a0g];rw[hCN];rfl
    . rw[dZ J,a0w (by omega)];rfl
   have eC:(3:Int)+(y:Int)=(CN:Int):=by omega
   rw[I,hy]at P;clear hy I hCN;go_wp2_with fail;refine(ae P).mono ?_;rintro e XW ⟨rfl,r1,k1⟩;have t:=af ((ae u).keep1 (ae x).2.2.1 k1 r1);generalize hQ:q+3=Q at *
   clear k1 r1 P u c0 f0 hQ;go_wp2_with fail;have c4:=(ae t).2.2.1.bad.1
   go_loopw [1,9] (fun v i wr=>∃j:Nat,j<=CN/\i = .int .i64 j/\(F=true->j=0)/\NS w b B s wr v (A++List.replicate j 0) Q F) (fun _ i _=>CN-(intOf i).toNat)
   case atStart=>exact⟨0,a0h _,rfl,fun _=>rfl,by rw[a3e,a1r];exact ae t⟩
   case round=>
    obtain⟨j,hj,rfl,D,o⟩:=hrel;clear t c4;obtain⟨m,hm⟩:∃m,(A++List.replicate j 0).length=m:=⟨_,rfl⟩;have ab:m<=900:=by rw[←hm,a0o,a0A,(ae x).1];have:=(ae x).2.1;omega
    obtain⟨va,vc,rfl⟩:=o.2.1.formN hm;obtain⟨c5,f5⟩:=o.2.2.1.bad;have S:=af hm;have l:=af o;have aa:=af D;clear o hm D;have p:Hid ((F=true∨¬ j<CN)->MnP w b B q s A 17 f (.returned (.slice va m vc)) wr):=by
     intro J;refine⟨_,_,Q,F,rfl,ae l,(ae R).1,fun M=>?_⟩;rw[(ae R).2 M];cases I:F
     .
      have:j=CN:=by
       rcases J with h|h
       . rw[I]at h;cases h
       . omega
      rw[this]
     . rfl
    by_cases E:j<CN
    .
     have G:(j:Int)<(CN:Int):=by omega
     cases F
     .
      have N:=af ((ae l).2.1.own (ae S));have K:B<=wr.heap.size:=(ae l).2.2.2;have T:Hid (m+1<=maxLen/\(m+1)*8<=140737488355328):=by show _/\_;unfold maxLen;omega
      go_wp2_with (at_builtin;refine a0v _ rfl _ _ 146 rfl B 3 i0 (.int .i64 0) 1 8 a0L hi W X Y rfl (by decide) (.slice va m vc) _ _ rfl (a0k (ae N) _) ⟨wr.heap.size,0,none⟩ 1 1 [.int .i64 0] rfl rfl (bo _ _ rfl _ _) (eZ _) (ae T).1 (ae T).2 (av K _) ?_;intro v' x6 r d H;clear H);have C:ax x6 B v' (A++List.replicate (j+1) 0):=by
       have:=cF (ae S) r;rw[a0U,←a3c]at this;exact this
      have z:=af ((ae l).grown (ae x).2.2.1 d C);clear r d C;go_wp2_with fail;go_roundw
      case rel=>first|exact⟨j+1,by omega,by go_num,nofun,ae z⟩|exact⟨j+1,by omega,by go_num,ae z⟩
      case measure=>simp[intOf];omega
     . go_wp2;go_ret;exact ae p (a0I (by simp))
    .
     have G:¬ (j:Int)<(CN:Int):=by omega
     go_wp2;go_ret;exact ae p (.inr E)
  .
   have a0:¬ k=17:=U;by_cases V:k=18
   .
    subst V;clear O U ac a0;have P:=af (gF b q 7 f s w (ae u).2.2.1 (ae HF) (by have:=ae x;omega) (by omega));obtain⟨y,hy⟩:∃y,ai s/2 ^ q%2 ^ 7=y:=⟨_,rfl⟩;have an:(y:Int)<=127:=by omega
    obtain⟨CN,hCN⟩:∃c,11+y=c:=⟨_,rfl⟩;obtain⟨F,I⟩:∃F,(f || decide (8*s.size<q+7))=F:=⟨_,rfl⟩;have R:Hid ((f=true->F=true)/\(f=false->dm (ai s) (8*s.size) A 18 q=if F=true then none else some (A++List.replicate CN 0,q+7))):=by
     refine⟨fun h=>by rw[←I,h];rfl,fun h=>?_⟩;rw[←I,h,a1Z];unfold dm;rw[a0d (by decide),a0d (by decide),a0e rfl];by_cases J:q+7<=8*s.size
     . rw[ca J,a0j (by omega),hy];simp only[a0g];rw[hCN];rfl
     . rw[dZ J,a0w (by omega)];rfl
    have eC:(11:Int)+(y:Int)=(CN:Int):=by omega
    rw[I,hy]at P;clear hy I hCN;go_wp2_with fail;refine(ae P).mono ?_;rintro e XW ⟨rfl,r1,k1⟩;have t:=af ((ae u).keep1 (ae x).2.2.1 k1 r1);generalize hQ:q+7=Q at *
    clear k1 r1 P u c0 f0 hQ;go_wp2_with fail;have c4:=(ae t).2.2.1.bad.1
    go_loopw [1,9] (fun v i wr=>∃j:Nat,j<=CN/\i = .int .i64 j/\(F=true->j=0)/\NS w b B s wr v (A++List.replicate j 0) Q F) (fun _ i _=>CN-(intOf i).toNat)
    case atStart=>exact⟨0,a0h _,rfl,fun _=>rfl,by rw[a3e,a1r];exact ae t⟩
    case round=>
     obtain⟨j,hj,rfl,D,o⟩:=hrel;clear t c4;obtain⟨m,hm⟩:∃m,(A++List.replicate j 0).length=m:=⟨_,rfl⟩;have ab:m<=900:=by rw[←hm,a0o,a0A,(ae x).1];have:=(ae x).2.1;omega
     obtain⟨va,vc,rfl⟩:=o.2.1.formN hm;obtain⟨c5,f5⟩:=o.2.2.1.bad;have S:=af hm;have l:=af o;have aa:=af D;clear o hm D;have p:Hid ((F=true∨¬ j<CN)->MnP w b B q s A 18 f (.returned (.slice va m vc)) wr):=by
      intro J;refine⟨_,_,Q,F,rfl,ae l,(ae R).1,fun M=>?_⟩;rw[(ae R).2 M];cases I:F
      .
       have:j=CN:=by
        rcases J with h|h
        . rw[I]at h;cases h
        . omega
       rw[this]
      . rfl
     by_cases E:j<CN
     .
      have G:(j:Int)<(CN:Int):=by omega
      cases F
      .
       have N:=af ((ae l).2.1.own (ae S));have K:B<=wr.heap.size:=(ae l).2.2.2;have T:Hid (m+1<=maxLen/\(m+1)*8<=140737488355328):=by show _/\_;unfold maxLen;omega
       go_wp2_with (at_builtin;refine a0v _ rfl _ _ 146 rfl B 3 i0 (.int .i64 0) 1 8 a0L hi W X Y rfl (by decide) (.slice va m vc) _ _ rfl (a0k (ae N) _) ⟨wr.heap.size,0,none⟩ 1 1 [.int .i64 0] rfl rfl (bo _ _ rfl _ _) (eZ _) (ae T).1 (ae T).2 (av K _) ?_;intro v' x6 r d H;clear H);have C:ax x6 B v' (A++List.replicate (j+1) 0):=by
        have:=cF (ae S) r;rw[a0U,←a3c]at this;exact this
       have z:=af ((ae l).grown (ae x).2.2.1 d C);clear r d C;go_wp2_with fail;go_roundw
       case rel=>first|exact⟨j+1,by omega,by go_num,nofun,ae z⟩|exact⟨j+1,by omega,by go_num,ae z⟩
       case measure=>simp[intOf];omega
      . go_wp2;go_ret;exact ae p (a0I (by simp))
     .
      have G:¬ (j:Int)<(CN:Int):=by omega
      go_wp2;go_ret;exact ae p (.inr E)
   .
    have a2:¬ k=18:=V;have t:=u;have R:Hid ((f=true->f=true)/\(f=false->dm (ai s) (8*s.size) A k q=if f=true then none else some (A++List.replicate 1 k,q))):=by
     refine⟨id,fun h=>?_⟩;rw[h];unfold dm;rw[a0d O,a0d U,a0d V];rfl
    clear u c0 f0 O U V;go_wp2_with fail;have c4:=(ae t).2.2.1.bad.1
    go_loopw [1,9] (fun v i wr=>∃j:Nat,j<=1/\i = .int .i64 j/\(f=true->j=0)/\NS w b B s wr v (A++List.replicate j k) q f) (fun _ i _=>1-(intOf i).toNat)
    case atStart=>exact⟨0,a0h _,rfl,fun _=>rfl,by rw[a3e,a1r];exact ae t⟩
    case round=>
     obtain⟨j,hj,rfl,D,o⟩:=hrel;clear t c4;obtain⟨m,hm⟩:∃m,(A++List.replicate j k).length=m:=⟨_,rfl⟩;have ab:m<=900:=by rw[←hm,a0o,a0A,(ae x).1];have:=(ae x).2.1;omega
     obtain⟨va,vc,rfl⟩:=o.2.1.formN hm;obtain⟨c5,f5⟩:=o.2.2.1.bad;have S:=af hm;have l:=af o;have aa:=af D;clear o hm D;have p:Hid ((f=true∨¬ j<1)->MnP w b B q s A k f (.returned (.slice va m vc)) wr):=by
      intro J;refine⟨_,_,q,f,rfl,ae l,(ae R).1,fun M=>?_⟩;rw[(ae R).2 M];cases I:f
      .
       have:j=1:=by
        rcases J with h|h
        . rw[I]at h;cases h
        . omega
       rw[this]
      . rfl
     by_cases E:j<1
     .
      have G:(j:Int)<(1:Int):=by omega
      cases f
      .
       have N:=af ((ae l).2.1.own (ae S));have K:B<=wr.heap.size:=(ae l).2.2.2;have T:Hid (m+1<=maxLen/\(m+1)*8<=140737488355328):=by show _/\_;unfold maxLen;omega
       go_wp2_with (at_builtin;refine a0v _ rfl _ _ 146 rfl B 3 i0 (.int .i64 0) 1 8 a0L hi W X Y rfl (by decide) (.slice va m vc) _ _ rfl (a0k (ae N) _) ⟨wr.heap.size,0,none⟩ 1 1 [.int .i64 k] rfl rfl (bo _ _ rfl _ _) (eZ _) (ae T).1 (ae T).2 (av K _) ?_;intro v' x6 r d H;clear H);have C:ax x6 B v' (A++List.replicate (j+1) k):=by
        have:=cF (ae S) r;rw[a0U,←a3c]at this;exact this
       have z:=af ((ae l).grown (ae x).2.2.1 d C);clear r d C;go_wp2_with fail;go_roundw
       case rel=>first|exact⟨j+1,by omega,by go_num,nofun,ae z⟩|exact⟨j+1,by omega,by go_num,ae z⟩
       case measure=>simp[intOf];omega
      . go_wp2;go_ret;exact ae p (a0I (by simp))
     .
      have G:¬ (j:Int)<(1:Int):=by omega
      go_wp2;go_ret;exact ae p (.inr E)
def lbV(V:Nat):List Nat->Nat->List Int->List Int
 | [],_,l=>l
 | i :: is,p,l=>lbV V is (p+3) (l.set i ((V/2 ^ p%2 ^ 3:Nat):Int))
theorem NW: ∀(is:List Nat) (p:Nat) (l:List Int),p<=sz->lbG V sz is p l=if p+3*is.length<=sz then some (lbV V is p l,p+3*is.length)else none:=by
 intro is;induction is with
 | nil=>intro p l h;simp[lbG,lbV,h]
 | cons i is ih=>
  intro p l h;simp only[lbG,lbV,a0J];by_cases a:p+3<=sz
  . rw[ca a];simp only[a0g];rw[ih _ _ a,show p+3+3*is.length=p+3*(is.length+1) by omega]
  . rw[dZ a,a0d (by omega)];rfl
def gq(V sz p:Nat):Option (Nat×List Int×Nat):=
 (rdN V sz p 5).bind fun a=>(rdN V sz a.2 5).bind fun c=>if a.1+257<=286/\c.1+1<=30 then
  (rdN V sz c.2 4).bind fun m=>(iy V sz (m.1+4) m.2).bind fun B=>(lnG V sz B.1 (a.1+257+(c.1+1)) B.2 []).bind fun A=>
   if ay (A.1.take (a.1+257))=true/\ay (A.1.drop (a.1+257))=true then some (a.1+257,A.1,A.2)else none
  else none
theorem Fu: sB V sz p T=(gq V sz p).bind fun x=>gx V sz (x.2.1.take x.1) (x.2.1.drop x.1) x.2.2 T:=by
 unfold sB gq;rcases rdN V sz p 5 with _|⟨a,d⟩
 . rfl
 simp only[a0g];rcases rdN V sz d 5 with _|⟨c,e⟩
 . rfl
 simp only[a0g]
 split
 .
  rcases rdN V sz e 4 with _|⟨m,f⟩
  . rfl
  simp only[a0g];rcases iy V sz (m+4) f with _|⟨B,g⟩
  . rfl
  simp only[a0g];rcases lnG V sz B (a+257+(c+1)) g []with _|⟨A,i⟩
  . rfl
  simp only[a0g];unfold ri;by_cases b:ay (A.take (a+257))=true
  .
   by_cases h2:ay (A.drop (a+257))=true
   . rw[a0e b,a0e h2,a0e ⟨b,h2⟩];rfl
   . rw[a0e b,a0d h2,a0d (fun h=>h2 h.2)];rfl
  . rw[a0d b,a0d (fun h=>b h.1)];rfl
 . rfl
theorem IF(h:gq V sz p=some (n,A,q)):q<=sz/\p<=q/\ay (A.take n)=true/\ay (A.drop n)=true:=by
 unfold gq at h;rcases b:rdN V sz p 5 with _|⟨a,k⟩
 . rw[b]at h;cases h
 rw[b]at h;simp only[a0g]at h;rcases h2:rdN V sz k 5 with _|⟨c,l⟩
 . rw[h2]at h;cases h
 rw[h2]at h;simp only[a0g]at h
 split at h
 .
  rcases d:rdN V sz l 4 with _|⟨m,o⟩
  . rw[d]at h;cases h
  rw[d]at h;simp only[a0g]at h;rcases e:iy V sz (m+4) o with _|⟨B,r⟩
  . rw[e]at h;cases h
  rw[e]at h;simp only[a0g]at h;rcases f:lnG V sz B (a+257+(c+1)) r []with _|⟨A5,u⟩
  . rw[f]at h;cases h
  rw[f]at h;simp only[a0g]at h;have s:=bh b;have t:=bh h2;have g:=bh d;have i:=oV e g.1;have j:=Bp f i.1
  split at h
  . rename_i hk;simp only[a0m,a0X]at h;obtain⟨rfl,rfl,rfl⟩:=h;exact⟨j.1,by omega,hk.1,hk.2⟩
  . cases h
 . cases h
theorem IE{X1 X2 X3:Nat}(g:p<=sz)(d:V/2 ^ p%2 ^ 5=X1)(h2:V/2 ^ (p+5)%2 ^ 5=X2)(e:V/2 ^ (p+5+5)%2 ^ 4=X3)(f:lbV V (bS.take (X3+4)) (p+5+5+4) (List.replicate 19 0)=l) :
  gq V sz p=if p+5+5+4+3*(X3+4)<=sz/\ay l=true/\X1+257<=286/\X2+1<=30 then(lnG V sz l (X1+257+(X2+1)) (p+5+5+4+3*(X3+4)) []).bind fun A=>
   if ay (A.1.take (X1+257))=true/\ay (A.1.drop (X1+257))=true then some (X1+257,A.1,A.2)else none else none:=by
 have a:(bS.take (X3+4)).length=X3+4:=by rw[a0t];have:bS.length=19:=rfl;omega
 unfold gq;by_cases c1:p+5<=sz
 .
  rw[ca c1];simp only[a0g];rw[d];by_cases c2:p+5+5<=sz
  .
   rw[ca c2];simp only[a0g];rw[h2];by_cases c:X1+257<=286/\X2+1<=30
   .
    rw[a0e c];by_cases c3:p+5+5+4<=sz
    .
     rw[ca c3];simp only[a0g];rw[e];unfold iy;rw[NW _ _ _ c3,a,f];by_cases c4:p+5+5+4+3*(X3+4)<=sz
     .
      rw[a0e c4];simp only[a0g];by_cases b:ay l=true
      . rw[a0e b,a0e ⟨c4,b,c⟩];rfl
      . rw[a0d b,a0d (fun h=>b h.2.1)];rfl
     . rw[a0d c4,a0d (fun h=>c4 h.1)];rfl
    . rw[dZ c3,a0d (by omega)];rfl
   . rw[a0d c,a0d (fun h=>c h.2.2)]
  . rw[dZ c2,a0d (by omega)];rfl
 . rw[dZ c1,a0d (by omega)];rfl
def LmP(w:World)(b p:Nat)(s:ByteArray)(e:Ending)(w':World):Prop:=
 KI b w.heap.size w w'/\∃va vb q f,e = .returned (.tuple #[va,vb])/\RF w' b s q f/\(f=true->gq (ai s) (8*s.size) p=none) /\
  (f=false->∃n m A al cl ad cd,va = .slice al n cl/\vb = .slice ad m cd/\gq (ai s) (8*s.size) p=some (n,A,q)/\A.length=n+m/\bT w' (b+1) al (A.take n)/\bT w' (b+1) ad (A.drop n))
def LmI(b gL many P:Nat)(s:ByteArray)(lf:List Int)(w:World)(i:Value)(wr:World):Prop:=
 ∃(k:Nat) (l:List Int),i = .int .i64 k/\k<=many/\aw b w wr/\Rdr wr b s (P+3*k)/\ax wr gL (.slice (some ⟨gL,0,none⟩) 19 19) l/\l.length=19/\lbV (ai s) ((bS.take many).drop k) (P+3*k) l=lf/\gL<wr.heap.size
def LaI(b B N:Nat)(s:ByteArray)(l:List Int)(d:Option (List Int×Nat))(w:World)(v:Value)(x:World):Prop:=
 ∃(A:List Int) (q:Nat) (f:Bool),NS w b B s x v A q f/\(f=false->A.length<=500/\q<=8*s.size/\lnG (ai s) (8*s.size) l N q A=d)/\(f=true->d=none)
theorem KI.ku(h:KI b w.heap.size w x):KU b w x:=⟨h.1,fun j c a _=>h.2 j c a c⟩
theorem KI.grow{y:World}(h:KI b B w x)(hb:Below x.heap.size x y)(d:b<=x.heap.size):KI b B w y:=⟨h.1.trans (hb.mono d),fun j c h2 a=>(hb.block j (a0i a h.1.size)).trans (h.2 j c h2 a)⟩
theorem KI.less{a:Nat}(h:KI b B w x)(e:a<=B):KI b a w x:=⟨h.1,fun j c h2 d=>h.2 j (a0i c e) h2 d⟩
theorem bT.ki{base:Nat}(h:bT w base a l)(d:KI b w.heap.size w x)(hb:b<base):bT x base a l:=h.moved d.1.size (fun g e c _=>d.2 g c (by omega) c)
theorem LmP.badEnd{va vb:Value}{o1 o2:Obj}(d:KI b w.heap.size w x)(g:RF x b s q f)(e:gq (ai s) (8*s.size) p=none):LmP w b p s (.returned (.tuple #[va,vb])) (((x.setCell ⟨b,2,none⟩ (.bool true)).alloc o1).alloc o2):=by
 have a:=g.setBad;have c:Below (x.setCell ⟨b,2,none⟩ (.bool true)).heap.size (x.setCell ⟨b,2,none⟩ (.bool true)) (((x.setCell ⟨b,2,none⟩ (.bool true)).alloc o1).alloc o2):=((a0c _ _).alloc (a0a _) _).alloc (by simp) _;exact⟨(d.trans ((bf _ _ _ _).ki _)).grow c (a0y a.lt),va,vb,q,true,rfl,a.kept (c.mono a.lt),fun _=>e,nofun⟩
theorem yo{B:List Int}(h:sz<p):lnG V sz B n p A=none:=by
 unfold lnG;rw[show sz+1-p=0 by omega];rfl
theorem EU(b p:Nat)(s:ByteArray)(w:World)(hr:Rdr w b s p)(hp:p<=8*s.size)(hs:s.size<=2000) :
  Calls prog 237 #[.pointer (some ⟨b,0,none⟩)] w (LmP w b p s):=by
 have ck:prog.follows .mixedOrders=true:=by kernel_rfl
 obtain⟨i0,hi,cm,co,cp⟩:=a0s Tryz.infoInt;have ds:=hr.lt;obtain⟨X1,L⟩:∃X,ai s/2 ^ p%2 ^ 5=X:=⟨_,rfl⟩;obtain⟨X2,h2⟩:∃X,ai s/2 ^ (p+5)%2 ^ 5=X:=⟨_,rfl⟩;obtain⟨X3,h3⟩:∃X,ai s/2 ^ (p+5+5)%2 ^ 4=X:=⟨_,rfl⟩;obtain⟨lf,hlf⟩:∃l,lbV (ai s) (bS.take (X3+4)) (p+5+5+4) (List.replicate 19 0)=l:=⟨_,rfl⟩;have HG:=af (IE hp L h2 h3 hlf);have N1:=af (f9 b p 5 s w hr (by omega) (by omega));have N2:=af (fun W (h:Rdr W b s (p+5))=>f9 b (p+5) 5 s W h (by omega) (by omega));have N3:=af (fun W (h:Rdr W b s (p+5+5))=>f9 b (p+5+5) 4 s W h (by omega) (by omega));rw[L]at N1;rw[h2]at N2;rw[h3]at N3;obtain⟨NL,hNL⟩:∃n,X1+257=n:=⟨_,rfl⟩;obtain⟨NB,hNB⟩:∃n,X2+1=n:=⟨_,rfl⟩;obtain⟨many,hmany⟩:∃n,X3+4=n:=⟨_,rfl⟩;rw[hNL,hNB,hmany]at HG;rw[hmany]at hlf;have eL:(257:Int)+(X1:Int)=(NL:Int):=by omega
 have eB:(1:Int)+(X2:Int)=(NB:Int):=by omega
 have eM:(4:Int)+(X3:Int)=(many:Int):=by omega
 have bL:(NL:Int)<=288:=by omega
 have bB:(NB:Int)<=32:=by omega
 have bM:(many:Int)<=19:=by omega
 have HN:Hid (s.size<=2000/\many<=19/\b<w.heap.size/\NL<=288/\NB<=32):=⟨hs,by omega,ds,by omega,by omega⟩;generalize hP:p+5+5+4=P at *
 have bs:=af hlf;clear L h2 h3 hNL hNB hmany hlf hr hp hs;go_enter func237,ntmps237;go_wp2_with fail;refine(ae N1).mono ?_;rintro e x1 ⟨rfl,r1,k1⟩;have a4:=af (a0b r1 k1);clear r1 k1 N1;go_wp2_with fail;refine(ae N2 x1 (ae a4).1).mono ?_;rintro e x2 ⟨rfl,r2,k2⟩;have a5:=af (a0b r2 ((ae a4).2.trans k2));clear r2 k2 N2 a4;go_wp2_with fail;refine(ae N3 x2 (ae a5).1).mono ?_;rintro e x3 ⟨rfl,r3,k3⟩;have T:=af (a0b r3 ((ae a5).2.trans k3));have c6:w.heap.size<=x3.heap.size:=(ae T).2.1.size;clear r3 k3 N3 a5 hP;go_wp2_with (at_make;refine a2a _ rfl _ _ 146 rfl x3.heap.size 3 i0 (.int .i64 0) 1 a0L hi cm co .i64 .i64 _ _ 19 rfl rfl rfl rfl (by rw[cp];omega) (by unfold maxLen;omega) (a0a _) ?_;intro w1 a2 Y);have a6:ax w1 x3.heap.size (.slice (some ⟨x3.heap.size,0,none⟩) 19 19) (List.replicate 19 0):=eq a2;have D:Below x3.heap.size x3 w1:=(a0c _ _).grown Y (a0a _) (fun k h=>by cases h);have a1:b<x3.heap.size:=(ae T).1.lt;have cc:x3.heap.size<w1.heap.size:=a6.below.2;generalize ba:x3.heap.size=gL at *
 have J:Hid (LmI b gL many P s lf w (.int .i64 (0:Nat)) w1):=⟨0,List.replicate 19 0,rfl,a0h _,(ae T).2.later (by rw[ba];exact D) (by rw[ba];exact a1),(ae T).1.kept (D.mono a1),a6,by simp,by rw[a17];exact ae bs,cc⟩;clear a2 Y hi cm co cp T a6 D bs ba cc;go_wp2_with fail
 go_loopw [8] (fun i wr=>LmI b gL many P s lf w i wr) (fun i _=>many-(intOf i).toNat)
 case atStart=>exact ae J
 case round=>
  obtain⟨k,l,rfl,hk,an,hr,ho,hl,hd,bk⟩:=hrel;clear J;by_cases bd:k<many
  .
   have dd:(k:Int)<(many:Int):=by omega
   have Z:k<19:=by have:=(ae HN).2.1;omega
   have dz:=Bu k Z;rw[yM bd (ae HN).2.1]at hd;simp only[lbV]at hd;have b0:=af (Be wr.drew);obtain⟨y,hy⟩:∃y,ai s/2 ^ (P+3*k)%2 ^ 3=y:=⟨_,rfl⟩;have HM:=af (fun W (h:Rdr W b s (P+3*k))=>f9 b (P+3*k) 3 s W h (by have:=ae HN;omega) (by omega));rw[hy]at HM hd;have r:=af (a0b an (a0b hr (a0b ho (a0b hl bk))));have cr:=af hd;have cs:Hid (yI.getD k 0=(bS.getD k 0:Nat)):=yJ k Z;have d6:=bk;clear an hr ho hl bk hk hd hy;generalize bS.getD k 0=o at *
   have d7:(o:Int)<19:=by omega
   have d4:wr.drew.heap.size=wr.heap.size:=rfl;go_wp2_with fail;refine a0H (S:=fun _=>True) ck trivial (fun hS=>?_);refine ag 0 (.slice (some ⟨gL,0,none⟩) 19 19) rfl (by kernel_rfl) (fun _ _ _ h=>h) rfl (fun W V=>by go_simp) hS ?_;refine ag 2 (.int .i64 (k:Nat)) rfl (by kernel_rfl) (fun _ _ _ h=>h) rfl (fun W V=>by go_simp) hS ?_;refine ag 5 (.pointer (some ⟨b,0,none⟩)) rfl (by kernel_rfl) (fun _ _ _ h=>h) rfl (fun W V=>by go_simp) hS ?_;refine ah 1 (by kernel_rfl) rfl fun K hK=>?_;go_simp;go_at_call 256;refine(ae b0).mono ?_;rintro e x4 ⟨rfl,o4,b4⟩;refine a0f hK _ _ trivial (fun _=>?_);clear hK K;have cg:wr.heap.size<x4.heap.size:=o4.below.2;have ad:Below wr.heap.size wr x4:=(a0c wr.heap.size wr).drew.trans b4;have k4:aw b wr x4:=(aw.refl b wr).later ad (ae r).2.1.lt;obtain⟨c4,_,_,_⟩:=o4.at yK Z;rw[ae cs]at c4;have b1:Hid (∀W,aw b x4 W->W.cell? ⟨wr.heap.size,k,none⟩=some (.int .i64 (o:Nat))):=fun W h=>by
    have L:=h.2 wr.heap.size cg (by have:=(ae r).2.1.lt;omega);rw[World.cell?_of_block (w:=x4) L (a:=⟨wr.heap.size,k,none⟩)];exact c4
   have z:Hid (aw b w x4/\Rdr x4 b s (P+3*k)/\ax x4 gL (.slice (some ⟨gL,0,none⟩) 19 19) l/\gL<x4.heap.size/\l.length=19):=⟨(ae r).1.trans k4,(ae r).2.1.kept (ad.mono (ae r).2.1.lt),(ae r).2.2.1.later ad (a0a _),by have:=(ae r).2.2.2.2;omega,(ae r).2.2.2.1⟩;clear r b0 o4 b4 ad k4 cg;refine dL (S':=fun W=>W.cell? ⟨wr.heap.size,k,none⟩=some (.int .i64 (o:Nat))) (fun _ _=>trivial) _ _ _ _ ?_;have a7:x4.cell? ⟨wr.heap.size,k,none⟩=some (.int .i64 (o:Nat)):=c4;refine a0Q (i:=3) (v:=.pointer (some ⟨wr.heap.size,k,none⟩)) rfl (by kernel_rfl) (by kernel_rfl) (by kernel_rfl) (fun _ _ _ h=>h) (a0I ⟨by rfl,fun W V=>by go_simp<;>(intro h;omega)⟩) a7 ?_;refine a0Q (i:=4) (v:=.int .i64 (o:Nat)) rfl (by kernel_rfl) (by kernel_rfl) (by kernel_rfl) (fun _ _ _ h=>h) (a0I ⟨by rfl,fun W V=>by go_simp⟩) a7 ?_;refine ah 6 (by kernel_rfl) rfl fun K hK=>?_;go_simp;go_at_call 232;refine(ae HM x4 (ae z).2.1).mono ?_;rintro e x5 ⟨rfl,r5,k5⟩;refine a0f hK _ _ (ae b1 _ k5) (fun a9=>?_);clear hK K;have dv:gL≠b:=by omega
   have o5:=(ae z).2.2.1.keep1' k5 (by omega);obtain⟨c5,f5,_,_⟩:=o5.at (ae z).2.2.2.2 dz;refine a0Q (i:=7) (v:=.pointer (some ⟨gL,o,none⟩)) rfl (by kernel_rfl) (by kernel_rfl) (by kernel_rfl) (fun _ _ _ h=>h) (a0I ⟨by rfl,fun W V=>by go_simp<;>(intro h;omega)⟩) a9 ?_;refine ah 8 (by kernel_rfl) rfl fun K hK=>?_;go_simp;have J:Hid (LmI b gL many P s lf w (.int .i64 (k+1:Nat)) (x5.setCell ⟨gL,o,none⟩ (.int .i64 (y:Nat)))):=by
    refine⟨k+1,l.set o (y:Nat),rfl,bd,((ae z).1.trans k5).set c6 (ae HN).2.2.1 _,?_,o5.put (ae z).2.2.2.2 _,by rw[a16];exact(ae z).2.2.2.2,by rw[show P+3*(k+1)=P+3*k+3 by omega];exact ae cr,?_⟩
    . rw[show P+3*(k+1)=P+3*k+3 by omega];exact r5.set dv _
    . have:=k5.1.size;have:=(ae z).2.2.2.1;simp;omega
   have b6:(x5.setCell ⟨gL,o,none⟩ (.int .i64 (y:Nat))).cell? ⟨wr.heap.size,k,none⟩=some (.int .i64 (o:Nat)):=by
    rw[World.cell?_setCell_other _ _ _ _ (by simp only[ne_eq,a0F];omega)];exact a9
   refine a0f hK _ _ b6 (fun _=>?_);clear hK K;refine a0u (by kernel_rfl) ?_ _;clear a7 a9 b6 k5 r5 o5 b1 HM z c4 c5 f5;generalize x5.setCell ⟨gL,o,none⟩ (.int .i64 (y:Nat))=x6 at *
   go_wp2_with fail;go_roundw
   case rel=>exact ae J
   case measure=>simp[intOf];omega
  .
   have dd:¬ (k:Int)<(many:Int):=by omega
   have dq:k=many:=by omega
   subst dq;have e0:(bS.take k).drop k=[]:=a3T (by rw[a0t];omega);rw[e0]at hd;simp only[lbV]at hd;subst hd;have Q:=af (iC (some ⟨gL,0,none⟩) 19 19 l wr hl (ho.rowN hl) (by omega));have HC:=af (dp (some ⟨gL,0,none⟩) 19 19 l wr hl (ho.rowN hl) (by omega));have JL:=af ((bU hl (ho.own hl)).mono (b':=b+1) (by omega));have r:=af (a0b an (a0b hr hl));clear an hr hl ho hk e0 bd;by_cases I:ay l=true/\NL<=286/\NB<=30
   .
    obtain⟨ok1,ok2,ok3⟩:=I;rw[ok1]at Q;have ct:=af ok1;obtain⟨d,hd⟩:∃d,lnG (ai s) (8*s.size) l (NL+NB) (P+3*k) []=d:=⟨_,rfl⟩;have M:Hid (gq (ai s) (8*s.size) p=d.bind fun A=>if ay (A.1.take NL)=true/\ay (A.1.drop NL)=true then some (NL,A.1,A.2)else none):=by
     show _=_;rw[ae HG,hd];by_cases hQ:P+3*k<=8*s.size
     . rw[a0e ⟨hQ,ok1,ok2,ok3⟩]
     . rw[a0d (fun h=>hQ h.1),←hd,yo (by omega)];rfl
    have HD:=af hd;have b2:¬ (286:Int)<(NL:Int):=by omega
    have cv:¬ (30:Int)<(NB:Int):=by omega
    have HK:=af (a0b ok2 ok3);clear ok1 ok2 ok3 hd HG;go_wp2_with fail;refine(ae Q).mono ?_;rintro e x4 ⟨rfl,rfl⟩;clear Q;go_wp2_with fail;refine(ae HC).mono ?_;rintro e x5 ⟨rfl,o5,b5⟩;have be:(a8 l 15).2.length=19:=by rw[bK];exact(ae r).2.2
    have aa:b<x4.heap.size:=(ae r).2.1.lt;have J5:=af (a0b ((ae JL).later b5) ((bU be (o5.own be)).mono (b':=b+1) aa));have K5:=af ((ae r).1.later b5 aa);have R5:=af (di ((ae r).2.1.kept (b5.mono aa)));have t:b<x5.heap.size:=(ae R5).lt;have b3:World.ownsRow (x5.alloc (.cells #[] 3)) x5.heap.size 3 1 (.slice (some ⟨x5.heap.size,0,none⟩) 0 0) 0 []:=a0P x5 #[] 0 (a0a _) (by unfold maxLen;omega) rfl;have al:Below x5.heap.size x5 (x5.alloc (.cells #[] 3)):=(a0c _ _).alloc (a0a _) _;have J:Hid (LaI b x5.heap.size (NL+NB) s l d x5 (.slice (some ⟨x5.heap.size,0,none⟩) 0 0) (x5.alloc (.cells #[] 3))):=by
     refine⟨[],P+3*k,_,⟨(KI.refl _ _ _).grow al (a0y t),b3,(ae R5).kept (al.mono t),al.size⟩,fun h=>⟨by simp,by simpa using h,ae HD⟩,fun h=>?_⟩;rw[←ae HD,yo (by simpa using h)]
    generalize c7:x4.heap.size=gC at *
    have Hl:=af (ae r).2.2;clear o5 b5 HC JL r R5 b3 al HD be c7;go_wp2_with fail;generalize x5.alloc (.cells #[] 3)=x6 at *
    obtain⟨N,hN⟩:∃N,NL+NB=N:=⟨_,rfl⟩;rw[hN]at J;have eN:(NL:Int)+(NB:Int)=(N:Int):=by omega
    have bN:(N:Int)<=316:=by have:=ae HK;omega
    go_loopw [10] (fun v wr=>LaI b x5.heap.size N s l d x5 v wr) (fun _ wr=>oH b (8*s.size) wr)
    case atStart=>exact ae J
    case round=>
     obtain⟨A,q,f,u,b7,b8⟩:=hrel;clear J;obtain⟨m,hm⟩:∃m,A.length=m:=⟨_,rfl⟩;obtain⟨va,vc,rfl⟩:=u.2.1.formN hm;obtain⟨c2,f2⟩:=u.2.2.1.bad;have ab:=u.2.2.1.lt;have E:=af hm;have c:=af u;have HF:=af (a0b b7 b8);have a0:=af u.2.2.1.far;have F:Hid (KI b w.heap.size w _):=((ae K5).ki _).trans (u.1.less (ae K5).1.size);have HJ:=af (a0b ((ae J5).1.ki u.1 (a0l _)) ((ae J5).2.ki u.1 (a0l _)));clear hm u b7 b8;cases f
     .
      obtain⟨cu,hq,j⟩:=(ae HF).1 rfl;rw[ae E]at cu;by_cases ao:m<N
      .
       have ac:(m:Int)<(N:Int):=by omega
       rw[ym hq (by rw[ae E];exact ao)]at j;have C:=af (px (some ⟨gL,0,none⟩) (some ⟨gC,0,none⟩) 19 19 19 b q l s wr (ae Hl) (ae ct) (by have:=ae HN;omega) (mX (ae c).2.2.1 hq) hq (fun W h=>((ae HJ).1.keep1 h (a0l _)).1) (fun W h=>((ae HJ).2.keep1 h (a0l _)).1));unfold nn at C;have Hq:=af hq;clear hq;rcases L:dec l (ai s) (8*s.size) q with _|⟨kk,q1⟩
       .
        rw[L]at C j;have B:Hid (d=none):=j.symm;clear L j;go_wp2_with fail;refine(ae C).mono ?_;rintro e x7 ⟨k7,xx,qq,rfl,r7⟩;have R:=af (yx b x5.heap.size qq m vc va s A xx true x7 (ae E) (by omega) ((ae c).keep1 t k7 r7 |> fun h=>⟨KI.refl _ _ _,h.2.1,h.2.2.1,h.2.2.2⟩) t nofun (ae HN).1);have O:=af ((ae c).1.trans (k7.ki _));clear C k7 r7 c2 f2;go_wp2_with fail;refine(ae R).mono ?_;rintro e x8 ⟨v8,A8,q8,f8,rfl,n8,t8,_⟩;have ht:f8=true:=t8 rfl;subst ht;have J:Hid (LaI b x5.heap.size N s l d x5 v8 x8):=⟨A8,q8,true,⟨(ae O).trans n8.1,n8.2.1,n8.2.2.1,n8.2.2.2⟩,nofun,fun _=>ae B⟩;have a3:Hid (oH b (8*s.size) x8<oH b (8*s.size) wr):=by
         show _<_;rw[n8.2.2.1.far,ae a0];simp only[a09,a1e,a1f];omega
        clear n8 t8 R O;go_wp2_with fail;go_roundw
        case rel=>exact ae J
        case measure=>exact ae a3
       .
        rw[L]at C j;have D:=eH L;have U:=af (a0b D.1 D.2.1);have HE:=af j;clear L j D;go_wp2_with fail;refine(ae C).mono ?_;rintro e x7 ⟨k7,rfl,r7⟩;have cq:RF x7 b s q1 false:=by have:=di r7;rwa[a0j (by have:=ae U;omega)]at this
        have R:=af (yx b x5.heap.size q1 m vc va s A kk false x7 (ae E) (by omega) ((ae c).keep1 t k7 cq |> fun h=>⟨KI.refl _ _ _,h.2.1,h.2.2.1,h.2.2.2⟩) t (fun _=>(ae U).1) (ae HN).1);have O:=af ((ae c).1.trans (k7.ki _));clear C k7 r7 cq c2 f2;go_wp2_with fail;refine(ae R).mono ?_;rintro e x8 ⟨v8,A8,q8,f8,rfl,n8,_,t8⟩;have t8':=t8 rfl;have hE:=ae HE;simp only[a0g]at hE;rw[t8']at hE;have J:Hid (LaI b x5.heap.size N s l d x5 v8 x8):=by
         refine⟨A8,q8,f8,⟨(ae O).trans n8.1,n8.2.1,n8.2.2.1,n8.2.2.2⟩,fun h=>?_,fun h=>?_⟩
         . rw[h]at hE t8';have:=ky t8' (ae U).1;rw[ae E]at this;exact⟨by omega,this.1,hE⟩
         . rw[h]at hE;exact hE.symm
        have a3:Hid (oH b (8*s.size) x8<oH b (8*s.size) wr):=by
         show _<_;rw[n8.2.2.1.far,ae a0];have:=ae U;have:=ae Hq;cases f8
         . have:=ky t8' (ae U).1;simp only[a1e,a1f];omega
         . simp only[a09,a1e,a1f];omega
        clear n8 t8 t8' hE R O;go_wp2_with fail;go_roundw
        case rel=>exact ae J
        case measure=>exact ae a3
      .
       have ac:¬ (m:Int)<(N:Int):=by omega
       rw[yq hq (by rw[ae E];exact ao),ae E]at j;by_cases ch:m=N
       .
        subst ch;rw[a0e rfl]at j;have HE:=af j;clear j ao;obtain⟨g,rfl⟩:=(ae c).2.1.somes (by rw[ae E];omega);have d2:m<=vc:=by
         rcases ((ae c).2.1.own (ae E)).2 with⟨e,_⟩|⟨g',d0,d5,e,_,_,L,_⟩
         . cases e
         . simp only[a0O]at e;omega
        have tl:(A.take NL).length=NL:=by rw[a0t,ae E];omega
        have dl:(A.drop NL).length=m-NL:=by rw[a01,ae E]
        have JA:=af ((bU (ae E) ((ae c).2.1.own (ae E))).mono (b':=b+1) t);have JD:=af ((ae JA).drop NL);rw[a0B]at JD;have x:=af (iC (some ⟨g,0,none⟩) vc NL (A.take NL) wr tl ((ae JA).take NL).1 (by omega));have G:=af (iC (some ⟨g,NL,none⟩) (vc-NL) (m-NL) (A.drop NL) wr dl (ae JD).1 (by omega));have d1:(NL:Int)<=(m:Int):=by omega
        clear tl dl;cases k1:ay (A.take NL)
        .
         have B:Hid (gq (ai s) (8*s.size) p=none):=by show _=_;rw[ae M,←ae HE];simp only[a0g];rw[a0d (fun h=>by rw[k1]at h;cases h.1)]
         rw[k1]at x;clear k1;go_wp2_with fail;refine(ae x).mono ?_;rintro e x7 ⟨rfl,rfl⟩;clear x;go_wp2
         go_ret2
         exact LmP.badEnd (ae F) (ae c).2.2.1 (ae B)
        .
         rw[k1]at x;cases k2:ay (A.drop NL)
         .
          have B:Hid (gq (ai s) (8*s.size) p=none):=by show _=_;rw[ae M,←ae HE];simp only[a0g];rw[a0d (fun h=>by rw[k2]at h;cases h.2)]
          rw[k2]at G;clear k1 k2;go_wp2_with fail;refine(ae x).mono ?_;rintro e x7 ⟨rfl,rfl⟩;clear x;go_wp2_with fail;refine(ae G).mono ?_;rintro e x8 ⟨rfl,rfl⟩;clear G;go_wp2
          go_ret2
          exact LmP.badEnd (ae F) (ae c).2.2.1 (ae B)
         .
          have B:Hid (gq (ai s) (8*s.size) p=some (NL,A,q)):=by show _=_;rw[ae M,←ae HE];simp only[a0g];rw[a0e ⟨k1,k2⟩]
          rw[k2]at G;clear k1 k2;go_wp2_with fail;refine(ae x).mono ?_;rintro e x7 ⟨rfl,rfl⟩;clear x;go_wp2_with fail;refine(ae G).mono ?_;rintro e x8 ⟨rfl,rfl⟩;clear G;go_wp2_with fail
          go_quiet (fail)
          go_wp2
          go_ret2
          have bb:Below x8.heap.size x8 (x8.drewN nq):=below_drewN (a0c _ _) nq;exact⟨(ae F).grow bb (a0y ab),_,_,q,false,rfl,(ae c).2.2.1.kept (bb.mono ab),nofun,fun _=>⟨NL,m-NL,A,_,_,_,_,rfl,rfl,ae B,by rw[ae E];omega,((ae JA).take NL).later bb,(ae JD).later bb⟩⟩
       .
        rw[a0d ch]at j;have d3:¬ (m:Int)=(N:Int):=by omega
        have B:Hid (gq (ai s) (8*s.size) p=none):=by show _=_;rw[ae M,←j];rfl
        clear j;go_wp2
        go_ret2
        exact LmP.badEnd (ae F) (ae c).2.2.1 (ae B)
     .
      have B:Hid (gq (ai s) (8*s.size) p=none):=by show _=_;rw[ae M,(ae HF).2 rfl];rfl
      by_cases ao:m<N
      .
       have ac:(m:Int)<(N:Int):=by omega
       go_wp2
       go_ret2
       exact LmP.badEnd (ae F) (ae c).2.2.1 (ae B)
      .
       have ac:¬ (m:Int)<(N:Int):=by omega
       go_wp2
       go_ret2
       exact LmP.badEnd (ae F) (ae c).2.2.1 (ae B)
   .
    have B:Hid (gq (ai s) (8*s.size) p=none):=by show _=_;rw[ae HG,a0d (fun h=>I h.2)]
    have cy:wr.cell? ⟨b,2,none⟩=some (.bool (decide (8*s.size<P+3*k)))/\wr.frozen? ⟨b,2,none⟩=false:=(di (ae r).2.1).bad;have ab:=(ae r).2.1.lt;obtain⟨c2,f2⟩:=cy;cases H:ay l
    .
     rw[H]at Q;clear H I;go_wp2_with fail;refine(ae Q).mono ?_;rintro e x4 ⟨rfl,rfl⟩;clear Q;go_wp2
     go_ret2
     exact LmP.badEnd ((ae r).1.ki _) (di (ae r).2.1) (ae B)
    .
     rw[H]at Q;by_cases bc:NL<=286
     .
      have c8:¬ NB<=30:=fun h=>I ⟨H,bc,h⟩;have b2:¬ (286:Int)<(NL:Int):=by omega
      have cv:(30:Int)<(NB:Int):=by omega
      clear H I bc c8;go_wp2_with fail;refine(ae Q).mono ?_;rintro e x4 ⟨rfl,rfl⟩;clear Q;go_wp2
      go_ret2
      exact LmP.badEnd ((ae r).1.ki _) (di (ae r).2.1) (ae B)
     .
      have b2:(286:Int)<(NL:Int):=by omega
      clear H I bc;go_wp2_with fail;refine(ae Q).mono ?_;rintro e x4 ⟨rfl,rfl⟩;clear Q;go_wp2
      go_ret2
      exact LmP.badEnd ((ae r).1.ki _) (di (ae r).2.1) (ae B)
theorem zl(b p n cap:Nat)(a:Option Addr)(s:ByteArray)(T:List UInt8)(d:Option (List UInt8×Nat))(w:World)(y:aK w (b+1) (.slice a n cap) T)(t:RF w b s p true)(A:s.size<=2000)(hd:T.length<=300->d=none)(P:Nat) :
  Calls prog 233 #[.pointer (some ⟨b,0,none⟩),.slice a n cap] w (MP w b P s T d):=by
 obtain⟨p,z,t⟩:=t.cut;have f:Hid (MS w b s w (.slice a n cap) T p true):=⟨KU.refl _ _,y,t⟩;have o:=af (ou b p true s w t z (by omega));have x:=af A;have F:=af hd;clear y t A z hd;go_enter func233,ntmps233;by_cases j:ai s/2 ^ p%2 ^ ((8-p%8)%8)=0
 case' pos=>
  rw[a0w j]at o;clear j;go_wp2_with fail;refine(ae o).mono ?_;rintro e x1 ⟨rfl,q,u⟩;have c:=af ((ae f).keep1 u q);clear u q o f
 case' neg=>
  rw[a0j j]at o;clear j;go_wp2_with fail;refine(ae o).mono ?_;rintro e x0 ⟨rfl,q,u⟩;have k:=af ((ae f).keep1 u q);obtain⟨c0,f0⟩:=q.bad;clear u q o f;have c:=af (ae k).setBad;go_wp2_with fail;generalize x0.setCell ⟨b,2,none⟩ (.bool true)=x1 at *
  clear k c0 f0
 all_goals
  obtain⟨Q1,hQ1⟩:∃Q,p+(8-p%8)%8=Q:=⟨_,rfl⟩;rw[hQ1]at c;have l:=af (gF b Q1 16 true s _ (ae c).2.2 nofun (by have:=ae x;omega) (by omega));rw[a3i]at l;go_wp2_with fail;refine(ae l).mono ?_;rintro e x2 ⟨rfl,D,B⟩;have m:=af ((ae c).keep1 B D);clear B D l c;have l:=af (gF b (Q1+16) 16 true s x2 (ae m).2.2 nofun (by have:=ae x;omega) (by omega));obtain⟨X,hX⟩:∃X,ai s/2 ^ Q1%2 ^ 16=X:=⟨_,rfl⟩;obtain⟨Y,hY⟩:∃Y,ai s/2 ^ (Q1+16)%2 ^ 16=Y:=⟨_,rfl⟩;have G:(X:Int)<=65535:=by
   have:ai s/2 ^ Q1%2 ^ 16<65536:=a05 _ (by decide);omega
  rw[a3i,hY]at l;rw[hX];clear hX hY;go_wp2_with fail;refine(ae l).mono ?_;rintro e x3 ⟨rfl,E,C⟩;have g:=af ((ae m).keep1 C E);clear C E l m;obtain⟨c3,f3⟩:=(ae g).2.2.bad;by_cases r:Y=65535-X
  case' neg=>
   have g1:¬ (Y:Int)=65535-(X:Int):=by omega
   have h:=af (ae g).setBad;clear r;go_wp2_with fail;generalize x3.setCell ⟨b,2,none⟩ (.bool true)=XW at *
  case' pos=>
   have g1:(Y:Int)=65535-(X:Int):=by omega
   clear r;rcases (by omega:(300:Int)<(X:Int)∨¬ (300:Int)<(X:Int))with gI|gI
   case' inl=>
    have h:=af (ae g).setBad;go_wp2_with fail;generalize x3.setCell ⟨b,2,none⟩ (.bool true)=XW at *
   case' inr=>
    have h:=g;go_wp2_with fail;generalize x3=XW at *
  all_goals
   have c4:=(ae h).2.2.bad.1
   go_loopw [1,6] (fun v i wr=>v = .slice a n cap/\i = .int .i64 0/\wr=XW) (fun _ _ _=>0)
   case atStart=>exact⟨rfl,rfl,rfl⟩
   case round=>
    obtain⟨rfl,rfl,rfl⟩:=hrel;by_cases H:0<X
    all_goals
     go_wp2;go_ret;exact(ae h).end (MR.bad (ae F))
theorem zC(b p P n cap nL i nD h:Nat)(a al ad:Option Addr)(s:ByteArray)(T:List UInt8)(L D:List Int)(d:Option (List UInt8×Nat))(w:World)(z:aK w (b+1) (.slice a n cap) T)(m:RF w b s p true)(hd:T.length<=300->d=none)
  (x:L.length=nL) (u:D.length=nD) (okL:ay L=true) (okD:ay D=true) (jL:bT w (b+1) al L) (jD:bT w (b+1) ad D) :
  Calls prog 234 #[.pointer (some ⟨b,0,none⟩),.slice a n cap,.slice al nL i,.slice ad nD h] w (MP w b P s T d):=by
 have j:=m.lt;have lL:=bC okL;have lD:=bC okD;have f:Hid (MS w b s w (.slice a n cap) T p true):=⟨KU.refl _ _,z,m⟩;have o:=af (dp al i nL L w x jL.1 (by omega));have q:=af (fun W (B:Below w.heap.size w W)=>dp ad h nD D W u (jD.later B).1 (by omega));have A:=af hd;clear z m x u okL okD jL jD hd;go_enter func234,ntmps234;go_wp2_with fail;refine(ae o).mono ?_;rintro e x1 ⟨rfl,o1,r⟩;have c:=af r;clear o1 r o;go_wp2_with fail;refine(ae q x1 (ae c)).mono ?_;rintro e x2 ⟨rfl,o2,t⟩;have k:Below w.heap.size w x2:=(ae c).trans (t.mono (ae c).size);have g:MS w b s x2 (.slice a n cap) T p true:=⟨(ae f).1.later k j,(ae f).2.1.later k (a0a _),(ae f).2.2.kept (k.mono j)⟩;have l:=af g;obtain⟨c2,f2⟩:=g.2.2.bad;have y:=g.lt;clear o2 t q k g f c;go_wp2_with fail
 go_loopw [1,11] (fun v _ wr=>v = .slice a n cap/\wr=x2) (fun _ _ _=>0)
 case atStart=>exact⟨rfl,rfl⟩
 case round=>
  obtain⟨rfl,rfl⟩:=hrel;go_wp2;go_ret;exact((ae l).setBad).end (MR.bad (ae A))
def nZ(V sz p:Nat)(T:List UInt8):Option (List UInt8×Nat):=(rdN V sz p 1).bind fun a=>(rdN V sz a.2 2).bind fun k=>fS V sz k.1 k.2 T
theorem Fx(h:p+1+2<=sz):nZ V sz p T=fS V sz (V/2 ^ (p+1)%2 ^ 2) (p+1+2) T:=by
 unfold nZ;rw[ca (by omega)];simp only[a0g];rw[ca h];rfl
theorem Jl(h:¬ p+1+2<=sz):nZ V sz p T=none:=by
 unfold nZ;by_cases a:p+1<=sz
 . rw[ca a];simp only[a0g];rw[dZ h];rfl
 . rw[dZ a];rfl
theorem Ey(h:¬ p+1+2<=8*s.size):ai s/2 ^ (p+1)%2 ^ 2<2:=by
 have a:=lI s (p+2) (by omega);rw[show p+2=p+1+1 by omega,a12,←a2v]at a;generalize ai s/2 ^ (p+1)=x at *
 omega
theorem MR.from{b:Nat}(h:MR sz p T d T' q f)(c:b<=p):MR sz b T d T' q f:=⟨fun a=>⟨(h.1 a).1,a0G c (h.1 a).2.1,(h.1 a).2.2⟩,h.2⟩
def PmP(w:World)(b p:Nat)(s:ByteArray)(T:List UInt8)(l:Bool)(d:Option (List UInt8×Nat))(e:Ending)(w':World):Prop:=
 KU b w w'/\∃v T' q f,e = .returned (.tuple #[v,.bool l])/\aK w' (b+1) v T'/\RF w' b s q f/\MR (8*s.size) p T d T' q f
theorem MP.part{a:Nat}{l:Bool}(h:MP x b p s T d (.returned v) x')(j:KU b w x)(k:a<=p):PmP w b a s T l d (.returned (.tuple #[v,.bool l])) x':=by
 obtain⟨c,v',T',q,f,e,h2,g,i⟩:=h;simp only[Ending.returned.injEq]at e;subst e;exact⟨j.trans c,v,T',q,f,rfl,h2,g,i.from k⟩
theorem zm(b p n cap:Nat)(a:Option Addr)(s:ByteArray)(T:List UInt8)(d:Option (List UInt8×Nat))(w:World)(j:T.length=n)(f:aK w (b+1) (.slice a n cap) T)(g:Rdr w b s p)(h:s.size<=2000)(i:n<=300+p)(hd:d=if p<=8*s.size then dk (ai s) (8*s.size) p T else none) :
  Calls prog 233 #[.pointer (some ⟨b,0,none⟩),.slice a n cap] w (MP w b p s T d):=by
 by_cases c:p<=8*s.size
 . rw[hd,a0e c];exact BQ b p n cap a s T w j f g c h i
 . have e:=di g;rw[a0w (by omega)]at e;exact zl b p n cap a s T d w f e h (fun _=>by rw[hd,a0d c]) p
theorem qj(b p n cap nL e nD c:Nat)(a al ad:Option Addr)(s:ByteArray)(T:List UInt8)(L D:List Int)(d:Option (List UInt8×Nat))(w:World)(m:T.length=n)(j:aK w (b+1) (.slice a n cap) T)(k:Rdr w b s p)(q:s.size<=2000)(o:n<=100000)(hd:d=if p<=8*s.size then gx (ai s) (8*s.size) L D p T else none)
  (h:L.length=nL) (g:D.length=nD) (okL:ay L=true) (okD:ay D=true) (jL:bT w (b+1) al L) (jD:bT w (b+1) ad D) :
  Calls prog 234 #[.pointer (some ⟨b,0,none⟩),.slice a n cap,.slice al nL e,.slice ad nD c] w (MP w b p s T d):=by
 by_cases f:p<=8*s.size
 .
  by_cases i:n<=300
  . rw[hd,a0e f];exact zE b p n cap nL e nD c a al ad s T L D w m j k f q i h g okL okD jL jD
  . exact zD b p n cap nL e nD c a al ad s T L D d w m j k f (by omega) o h g okL okD jL jD
 . have l:=di k;rw[a0w (by omega)]at l;exact zC b p p n cap nL e nD c a al ad s T L D d w j l (fun _=>by rw[hd,a0d f]) h g okL okD jL jD
theorem aK.ki{base:Nat}(h:aK w base v T)(f:KI b w.heap.size w x)(hb:b<base):aK x base v T:=by
 refine⟨h.1,?_⟩;rcases h.2 with i|⟨g,cap,d,rfl,e,a,rest⟩
 . exact .inl i
 . have c:=(Array.getElem?_eq_some_iff.1 a).1;refine .inr ⟨g,cap,d,rfl,e,?_,rest⟩;rw[f.2 g c (by omega) c];exact a
theorem Fy(b p n cap:Nat)(a:Option Addr)(s:ByteArray)(T:List UInt8)(w:World)(hn:T.length=n)(ho:aK w (b+1) (.slice a n cap) T)(hr:Rdr w b s p)(hp:p<=8*s.size)(hs:s.size<=2000)(hT:n<=300+p) :
  Calls prog 218 #[.pointer (some ⟨b,0,none⟩),.slice a n cap] w (PmP w b (p+1+2) s T (decide (((ai s/2 ^ p%2:Nat):Int)=1)) (nZ (ai s) (8*s.size) p T)):=by
 obtain⟨d,hd⟩:∃d,nZ (ai s) (8*s.size) p T=d:=⟨_,rfl⟩;rw[hd];obtain⟨X,hX⟩:∃X,ai s/2 ^ p%2=X:=⟨_,rfl⟩;obtain⟨K,hK⟩:∃K,ai s/2 ^ (p+1)%2 ^ 2=K:=⟨_,rfl⟩;have aa:K<4:=by rw[←hK];exact a05 _ (by decide)
 have j:Hid (d=if p+1+2<=8*s.size then fS (ai s) (8*s.size) K (p+1+2) T else none):=by
  show d=_;rw[←hd];by_cases I:p+1+2<=8*s.size
  . rw[a0e I,Fx I,hK]
  . rw[a0d I,Jl I]
 have M:Hid (¬ p+1+2<=8*s.size->K<2):=fun h=>by rw[←hK];exact Ey h
 have N1:=af (jY b p s w hr (by omega));have N2:=af (fun W (h:Rdr W b s (p+1))=>f9 b (p+1) 2 s W h (by omega) (by omega));rw[hX]at N1;rw[hK]at N2;rw[hX];have m:Hid (T.length=n/\s.size<=2000/\n<=300+p/\p<=8*s.size):=⟨hn,hs,hT,hp⟩;have Y:=af ho;have ab:(n:Int)<=100000:=by omega
 clear hn ho hr hp hs hT hd hX hK;go_enter func218,ntmps218;go_wp2_with fail;refine(ae N1).mono ?_;rintro e x1 ⟨rfl,r1,k1⟩;have u:=af (a0b r1 k1);clear r1 k1 N1;go_wp2_with fail;refine(ae N2 x1 (ae u).1).mono ?_;rintro e x2 ⟨rfl,r2,k2⟩;have c:=af (a0b r2 ((ae u).2.trans k2));have i:=af ((ae Y).keep1 (ae c).2 (a0l _));clear r2 k2 N2 u Y;generalize hP:p+1+2=P at *
 have l:=(ae c).1.lt;have R:K=0∨K=1∨K=2∨K=3:=by omega
 rcases R with rfl|rfl|rfl|rfl
 .
  have o:=af (zm b P n cap a s T d x2 (ae m).1 (ae i) (ae c).1 (ae m).2.1 (by have:=ae m;omega) (ae j));go_wp2_with fail;refine(ae o).mono ?_;rintro e x3 k;obtain⟨v,rfl⟩:∃v,e = .returned v:=⟨_,k.2.choose_spec.choose_spec.choose_spec.choose_spec.1⟩;have E:=af k;clear k o;go_wp2
  go_ret2
  exact(ae E).part (ae c).2.ku (a0a _)
 .
  have B:=af (pW x2);go_wp2_with fail;refine(ae B).mono ?_;rintro e x3 ⟨v3,rfl,o3,H⟩;have l3:(c9 288).length=288:=by kernel_rfl
  obtain⟨a3,c3,rfl⟩:=o3.formN l3;have J3:=af ((bU l3 (o3.own l3)).mono (b':=b+1) l);have C:=af (a0b ((ae c).1.kept (H.mono l)) ((ae c).2.later H l));have O3:=af ((ae i).later H (a0a _));have g:=(ae C).1.lt;have V:=af (pV x3);clear B o3 H c i l3;go_wp2_with fail;refine(ae V).mono ?_;rintro e x4 ⟨v4,rfl,o4,F⟩;have l4:(List.replicate 32 (5:Int)).length=32:=by simp
  obtain⟨a4,c4,rfl⟩:=o4.formN l4;have o:=af (qj b P n cap 288 c3 32 c4 a a3 a4 s T (c9 288) (List.replicate 32 5) d x4 (ae m).1 ((ae O3).later F (a0a _)) ((ae C).1.kept (F.mono g)) (ae m).2.1 (by have:=ae m;omega) (ae j) (by kernel_rfl) l4 CJ xw ((ae J3).later F) ((bU l4 (o4.own l4)).mono (b':=b+1) g));have L:=af ((ae C).2.later F g);clear V o4 F C O3 J3 l4;go_wp2_with fail;refine(ae o).mono ?_;rintro e x5 k;obtain⟨v,rfl⟩:∃v,e = .returned v:=⟨_,k.2.choose_spec.choose_spec.choose_spec.choose_spec.1⟩;have E:=af k;clear k o;go_wp2
  go_ret2
  exact(ae E).part (ae L).ku (a0a _)
 .
  have y:P<=8*s.size:=by
   by_cases h:P<=8*s.size
   . exact h
   . have:=ae M h;omega
  have B:=af (EU b P s x2 (ae c).1 y (ae m).2.1);have r:Hid (d=(gq (ai s) (8*s.size) P).bind fun x=>gx (ai s) (8*s.size) (x.2.1.take x.1) (x.2.1.drop x.1) x.2.2 T):=by
   show d=_;rw[ae j,a0e y,←Fu];rfl
  clear j y;go_wp2_with fail;refine(ae B).mono ?_;rintro e x3 ⟨J,va,vb,q,f,rfl,D,U,S⟩;have O3:=af ((ae i).ki J (a0l _));have Z:=af ((ae c).2.ku.trans J.ku);obtain⟨c3,f3⟩:=D.bad;have g:=D.lt;cases f
  .
   obtain⟨nL,nD,A,al,cl,ad,cd,rfl,rfl,Q,hA,jL,jD⟩:=S rfl;obtain⟨g1,g2,g3,g4⟩:=IF Q;have G:d=if q<=8*s.size then gx (ai s) (8*s.size) (A.take nL) (A.drop nL) q T else none:=by rw[ae r,Q,a0e g1];rfl
   have o:=af (qj b q n cap nL cl nD cd a al ad s T (A.take nL) (A.drop nL) d x3 (ae m).1 (ae O3) (mX D g1) (ae m).2.1 (by have:=ae m;omega) G (by rw[a0t];omega) (by rw[a01];omega) g3 g4 jL jD);have N:=af g2;clear B J D U S Q hA jL jD g1 g2 g3 g4 G;go_wp2_with fail;refine(ae o).mono ?_;rintro e x5 k;obtain⟨v,rfl⟩:∃v,e = .returned v:=⟨_,k.2.choose_spec.choose_spec.choose_spec.choose_spec.1⟩;have E:=af k;clear k o;go_wp2
   go_ret2
   exact(ae E).part (ae Z) (ae N)
  .
   have O:Hid (d=none):=by show d=none;rw[ae r,U rfl];rfl
   have C:=af D;clear B J D U S;go_wp2
   go_ret2
   exact⟨ae Z,_,T,q,true,rfl,ae O3,ae C,MR.bad (fun _=>ae O)⟩
 .
  have O:Hid (d=none):=by
   show d=none;rw[ae j]
   split
   . unfold fS;rw[a0d (by decide),a0d (by decide),a0d (by decide)]
   . rfl
  have z:MS w b s x2 (.slice a n cap) T P (decide (8*s.size<P)):=⟨(ae c).2.ku,ae i,di (ae c).1⟩;obtain⟨c2,f2⟩:=z.2.2.bad;have t:=af z;clear z;go_wp2
  go_ret2
  exact⟨(ae t).setBad.1,_,T,P,true,rfl,(ae t).setBad.2.1,(ae t).setBad.2.2,MR.bad (fun _=>ae O)⟩
end Go.Proofs.YtkdlcomfpffhhaaGreatDoor
