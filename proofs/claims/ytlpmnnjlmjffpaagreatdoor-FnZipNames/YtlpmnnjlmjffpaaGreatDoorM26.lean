/- Of what the proof is made: 19 texts, one behind the other. -/
import Derived.Test.YtlpmnnjlmjffpaaGreatDoorM20
import Derived.Test.YtlpmnnjlmjffpaaGreatDoorM13
import Derived.Test.YtlpmnnjlmjffpaaGreatDoorM14
import Derived.Test.YtlpmnnjlmjffpaaGreatDoorM25
import Derived.Test.YtlpmnnjlmjffpaaGreatDoorM22
import Derived.Test.YtlpmnnjlmjffpaaGreatDoorM19
import Derived.Test.YtlpmnnjlmjffpaaGreatDoorM23
import Derived.Test.YtlpmnnjlmjffpaaGreatDoorTi1
import Derived.Test.YtlpmnnjlmjffpaaGreatDoorM9
import Derived.Test.YtlpmnnjlmjffpaaGreatDoorM16
import Derived.Test.YtlpmnnjlmjffpaaGreatDoorM2
import Derived.Test.YtlpmnnjlmjffpaaGreatDoorM4
set_option maxRecDepth 100000
set_option linter.unusedSimpArgs false
set_option linter.unusedVariables false
set_option maxHeartbeats 6400000
namespace Go.Proofs.YtlpmnnjlmjffpaaGreatDoor
open Go.Proofs.Tryz
open Go.RowKit Corb
variable {a:Option Addr}{b:Nat}{l:List Int}{w w':World}
def g9(w:World)(b:Nat)(a:Option Addr)(l:List Int):Prop:=bu w a l/\(0<l.length->∀x,a=some x->x.block≠b/\∀cur fr,w.heap[x.block]?≠some (.cells cur 5 fr))
theorem g9.keep(h:g9 w b a l)(k:bO b w w'):g9 w' b a l:=by
 by_cases c:0<l.length
 .
  obtain⟨g,o,e,j,m⟩:=h.1 c;obtain⟨f,h2⟩:=h.2 c _ e;have hb:=k.2 g j f h2;refine⟨fun _=>⟨g,o,e,a0j j k.1,fun i n=>?_⟩,fun _ x ex=>?_⟩
  . rw[←m i n];exact World.cell?_of_block (w:=w) hb
  .
   have:x=⟨g,o,none⟩:=by rw[ex]at e;exact a02 e
   subst this;exact⟨f,fun d fr=>by rw[hb];exact h2 d fr⟩
 . exact⟨fun h=>absurd h c,fun h=>absurd h c⟩
theorem g9.below(h:g9 w b a l)(hb:Below w.heap.size w w'):g9 w' b a l:=h.keep ⟨hb.size,fun k c _ _=>hb.block k c⟩
theorem Ko{base n cap:Nat}(k:l.length=n)(h:w.ownsRow base 3 1 (.slice a n cap) n (l.map (Value.int .i64)))(hb:b<base):g9 w b a l:=by
 refine⟨zO k h,fun m x ex=>?_⟩;subst ex;rcases h.2 with⟨e,_⟩|⟨g,c,f,e,i,j,_⟩
 . cases e
 . simp only[a0L,a0k]at e;obtain⟨rfl,_⟩:=e;refine⟨by show g≠b;omega,fun d fr=>?_⟩;show w.heap[g]?≠_;rw[j];intro e;cases e
theorem eQ{base n cap:Nat}(c:l.length=n)(h:ay w base (.slice a n cap) l)(hb:b<base):g9 w b a l:=Ko c (h.own c) hb
def aW(p:Nat×Nat)(l:List (Int×Int)):Nat×Nat:=gU p (mR l)
theorem aZ(p:Nat×Nat)(l m:List (Int×Int)):aW p (l++m)=aW (aW p l) m:=by
 unfold aW mR;rw[a06,lN]
def pcM(l:List Int)(k:Nat):Int×Int:=((rv (l.getD k 0).toNat ((bi l 15).2.getD k 0).toNat:Nat),l.getD k 0)
theorem Out.kept{V m:Nat}(h:Out w b V m)(hb:Below w.heap.size w w'):Out w' b V m:=by
 obtain⟨c,v,a,e⟩:=h;refine⟨c,v,Three.kept a (hb.mono a.2.2.2.2.2.2),?_⟩;exact a16 e (row:=none) ⟨hb.os,hb.tape,hb.output,hb.size,fun k d _=>hb.block k d⟩ (by
  cases f:v.ownBlock with
  | none=>exact .inl rfl
  | some k=>exact .inr (by simp))
theorem Out.lt{V m:Nat}(h:Out w b V m):b<w.heap.size:=by
 obtain⟨_,_,a,_⟩:=h;exact a.2.2.2.2.2.2
def jg(w:World)(b:Nat)(p:Nat×Nat):Prop:=Out w b p.1 p.2
theorem ez(b:Nat)(p:Nat×Nat)(num bits:Int)(w:World)(h:jg w b p)(c:pOk num bits=true)(k:p.2<=100000) :
  Calls prog 224 #[.pointer (some ⟨b,0,none⟩),.int .i64 num,.int .i64 bits] w fun e w'=>e = .returned (.tuple #[])/\jg w' b (aW p [(num,bits)])/\KB b w w':=by
 obtain⟨⟨f,g⟩,n0,n1⟩:=aR.1 c;have a:num.toNat<p2 bits.toNat:=by
  have:(num.toNat:Int)<((p2 bits.toNat:Nat):Int):=by rw[a3d n0];exact n1
  omega
 have i:p2 bits.toNat<=p2 16:=a0K (by omega) (by omega);have e16:p2 16=65536:=by decide
 refine(Kx b p.1 p.2 num bits w h n0 (by omega) f g k).mono ?_;rintro e w' ⟨rfl,d,j⟩;refine⟨rfl,?_,j⟩;rw[a0U a]at d;exact d
theorem nG{k:Nat}(h:0<=l.getD k 0/\l.getD k 0<=15):pOk (pcM l k).1 (pcM l k).2=true:=by
 refine aR.2 ⟨⟨h.1,by show l.getD k 0<=16;omega⟩,by show(0:Int)<=((_:Nat):Int);omega,?_⟩;show((rv (l.getD k 0).toNat ((bi l 15).2.getD k 0).toNat:Nat):Int)<((p2 (l.getD k 0).toNat:Nat):Int);have:=NP (l.getD k 0).toNat ((bi l 15).2.getD k 0).toNat
 unfold p2;omega
theorem oW(b:Nat)(p:Nat×Nat)(a ac:Option Addr)(cap n u k:Nat)(l:List Int)(w:World)(v:jg w b p)(q:l.length=n)(h:bu w a l)(g:bu w ac (bi l 15).2)(y:k<n)(z:n<=300)(r:0<=l.getD k 0/\l.getD k 0<=15)(x:0<=(bi l 15).2.getD k 0/\(bi l 15).2.getD k 0<65536)(A:p.2<=100000) :
  Calls prog 269 #[.pointer (some ⟨b,0,none⟩),.slice a n cap,.slice ac n u,.int .i64 (k:Int)] w fun e w'=>e = .returned (.tuple #[])/\jg w' b (aW p [pcM l k])/\KB b w w':=by
 have HP:=af (Bkx.l3Piece_any a ac cap n u k l (bi l 15).2 w q ((bW l 15).trans q) h g y z r x);have j:=af (nG r);have f:Hid (pcM l k=(((rv (l.getD k 0).toNat ((bi l 15).2.getD k 0).toNat:Nat):Int),l.getD k 0)):=rfl;rw[ae f]at j;generalize pcM l k=PC at *
 generalize rv (l.getD k 0).toNat ((bi l 15).2.getD k 0).toNat=R at *
 generalize l.getD k 0=Y at *
 have s:=af v;clear v h g r x q;go_enter func269,ntmps269;go_wp2_with fail;refine(ae HP).mono ?_;rintro e x1 ⟨rfl,c⟩;have d:Below w.heap.size w (x1.alloc (.cells #[.int .i64 (R:Nat),.int .i64 Y] 157)):=c.alloc c.size _;have o:=af (Out.kept (ae s) d);have m:=af ((KB.refl b w).below d (a0C (Out.lt (ae s))));clear c d HP;go_wp2_with fail;refine(ez b p (R:Nat) Y _ (ae o) (ae j) A).mono ?_;rintro e x2 ⟨rfl,h2,i⟩;have t:=af (a0b h2 ((ae m).trans i));clear h2 i;go_wp2
 go_end0
 exact⟨rfl,by rw[ae f];exact(ae t).1,(ae t).2⟩
end Go.Proofs.YtlpmnnjlmjffpaaGreatDoor
namespace Go.Proofs.YtlpmnnjlmjffpaaGreatDoor
open Go.Proofs.Tryz
open Go.RowKit Corb Bkx
set_option linter.defProp false
variable {b:Nat}{w w':World}
theorem aw.drew(h:aw b w w'):aw b w w'.drew:=⟨h.1.drew,h.2,h.3⟩
theorem ce.keep1{base:Nat}{a:Option Addr}{l:List Int}(h:ce w base a l)(c:aw b w w')(hb:b<base):ce w' base a l:=h.moved c.1.size (fun g e d _=>c.2 g d (by omega))
theorem bU.keep1{base:Nat}{l:List Int}{C:Array Value}(h:bU w base l C)(c:aw b w w')(hb:b<base):bU w' base l C:=by
 obtain⟨a,cap,ac,d,q,sc,e,f,h2,g⟩:=h;exact⟨a,cap,ac,d,q,sc,e,f.keep1 c hb,h2.keep1 c hb,g.keep1 c hb⟩
def SyP(w:World)(b:Nat)(s:ByteArray)(d:Option (Int×Nat))(e:Ending)(w':World):Prop:=
 aw b w w'/\match d with
  | none=>e=jE
  | some (i,q)=>e = .returned (.int .i64 i)/\Rdr w' b s q
def po:Array Value:=#[Value.slice none 0 0,Value.slice none 0 0,Value.int .i64 0,Value.int .i64 0,Value.int .i64 0,Value.int .i64 0,Value.int .i64 0,Value.int .i64 0,Value.int .i64 0,Value.int .i64 0,Value.int .i64 0,Value.int .i64 0,Value.int .i64 0,Value.int .i64 0,Value.int .i64 0,Value.int .i64 0,Value.int .i64 0,Value.int .i64 0,Value.slice none 0 0]
theorem Tryz.infoLenB:(prog.info? 278).map (·.size)=some 19:=by kernel_rfl
theorem Im(B:BkI)(i:Bks B)(b p base:Nat)(C:Array Value)(l:List Int)(s:ByteArray)(w:World)(h:bU w base l C)(c:b<base)(d:av l=true)(n:s.size<=2000000)(m:Rdr w b s p)(k:p<=8*s.size) :
  Calls prog B.g #[.agg C,.pointer (some ⟨b,0,none⟩)] w (lX w b s (dec l (ai s) (8*s.size) p)):=by
 obtain⟨a,cap,ac,o,q,sc,e,r,h2,f⟩:=h;exact Bkx.bookGet_any B i a q cap l.length _ sc b p _ C l s w e d rfl n m k (fun W j=>(f.keep1 j c).1)
theorem rP(B:BkI)(M:Bks B)(b p base:Nat)(C:Array Value)(l:List Int)(s:ByteArray)(w:World)(N:bU w base l C)(E:b<base)(H:av l=true)(Y:s.size<=2000000)(R:Rdr w b s p)(X:p<=8*s.size) :
  Calls prog B.s #[.pointer (some ⟨b,0,none⟩),.agg C] w (SyP w b s (dec l (ai s) (8*s.size) p)):=by
 have G:prog.follows .mixedOrders=true:=by kernel_rfl
 have O:=R.lt;have V:Below w.heap.size w (w.alloc (.cells C B.T)):=(a0c _ _).alloc (a0a _) _;have z:aw b w (w.alloc (.cells C B.T)).drew:=((aw.refl b w).alloc O _).drew;have I:Rdr (w.alloc (.cells C B.T)).drew b s p:=R.alloc _;have y:bU (w.alloc (.cells C B.T)).drew base l C:=N.later V.drew;have J:=N.size;have F:(prog.info? B.T).map (·.size)=some C.size:=by rw[J];exact M.info
 have r:(w.alloc (.cells C B.T)).rangeAt w.heap.size 0 C.toList:=by
  intro j v U;rw[a0J,lv (alloc_at w (.cells C B.T))];simpa using U
 have L:=af (Im B M b p base C l s _ y E H Y I X);have o:=af z;have Q:w.heap.size≠b:=by omega
 have a:Hid (∀W,aw b (w.alloc (.cells C B.T)).drew W->W.rangeAt w.heap.size 0 C.toList):=by
  intro W hW j v U;rw[←r j v U];exact World.cell?_of_block (w:=w.alloc (.cells C B.T)) (hW.2 w.heap.size (by simp) Q)
 have A:(w.alloc (.cells C B.T)).drew.rangeAt w.heap.size 0 C.toList:=r;clear N H Y R X V z I y J r E;obtain⟨ds,D,P⟩:=M.und;rcases M with rfl|rfl|rfl;all_goals
  simp only[bkL,bkD,bkN]at F L o a A D ⊢;generalize dec l (ai s) (8*s.size) p=d at *
  unfold SyP;unfold lX at L;rcases d with _|⟨i,q⟩;all_goals
   simp only at L ⊢
   (first|go_enter func284,ntmps284|go_enter func295,ntmps295|go_enter func286,ntmps286)
   go_wp2_with fail;refine wp_region_held_drew (S:=fun W=>W.rangeAt w.heap.size 0 C.toList) G A (fun x=>?_);refine wpAnyH_take (i:=0) (v:=.agg C) rfl (by kernel_rfl) (by kernel_rfl) (by kernel_rfl) (fun _ _ _ h=>h) (je (by rfl) _ (.tmp 3) rfl w.heap.size 0 rfl C _ (fun _ h=>h) D P F) x ?_;refine ag 1 (.pointer (some ⟨b,0,none⟩)) rfl (by kernel_rfl) (fun _ _ _ h=>h) rfl (fun W f=>by go_simp) x ?_;refine ag 2 (.pointer (some ⟨b,0,none⟩)) rfl (by kernel_rfl) (fun _ _ _ h=>h) rfl (fun W f=>by go_simp) x ?_;refine ag 3 (.pointer (some ⟨b,0,none⟩)) rfl (by kernel_rfl) (fun _ _ _ h=>h) rfl (fun W f=>by go_simp) x ?_;refine ah 4 (by kernel_rfl) rfl fun K g=>?_;go_simp
   (first|go_at_call 293|go_at_call 300|go_at_call 297)
   refine(ae L).mono ?_
  . rintro e x1 ⟨m,rfl⟩;have n:=af ((ae o).trans m);refine Shut.out g _ _ (ae a _ m) (fun c=>?_);clear g K;refine wpAnyH_take (i:=5) (v:=.tuple #[.int .i64 0,.bool false]) rfl (by kernel_rfl) (by kernel_rfl) (by kernel_rfl) (fun _ _ _ h=>h) (a0s ⟨by rfl,fun W f=>by go_simp⟩) c ?_;refine wpAnyH_take (i:=6) (v:=.int .i64 0) rfl (by kernel_rfl) (by kernel_rfl) (by kernel_rfl) (fun _ _ _ h=>h) (a0s ⟨by rfl,fun W f=>by go_simp⟩) c ?_;refine wpAnyH_take (i:=7) (v:=.bool false) rfl (by kernel_rfl) (by kernel_rfl) (by kernel_rfl) (fun _ _ _ h=>h) (a0s ⟨by rfl,fun W f=>by go_simp⟩) c ?_;refine ah 8 (by kernel_rfl) rfl fun K g=>?_;go_simp;refine Shut.out g _ _ (ae a _ m) (fun t=>?_);clear g K;refine ah 9 (by kernel_rfl) rfl fun K g=>?_;go_simp;refine Shut.out g _ _ (ae a _ m) (fun u=>?_);clear g K;refine wpAnyH_done (by kernel_rfl) ?_ _;clear x c t u m a;go_wp2_with fail;refine(eU _).mono ?_;rintro e x2 ⟨rfl,k⟩;rw[k];clear k x2;exact⟨rfl,ae n,rfl⟩
  . rintro e x1 ⟨m,rfl,Z⟩;have n:=af (a0b ((ae o).trans m) Z);refine Shut.out g _ _ (ae a _ m) (fun c=>?_);clear g K;refine wpAnyH_take (i:=5) (v:=.tuple #[.int .i64 i,.bool true]) rfl (by kernel_rfl) (by kernel_rfl) (by kernel_rfl) (fun _ _ _ h=>h) (a0s ⟨by rfl,fun W f=>by go_simp⟩) c ?_;refine wpAnyH_take (i:=6) (v:=.int .i64 i) rfl (by kernel_rfl) (by kernel_rfl) (by kernel_rfl) (fun _ _ _ h=>h) (a0s ⟨by rfl,fun W f=>by go_simp⟩) c ?_;refine wpAnyH_take (i:=7) (v:=.bool true) rfl (by kernel_rfl) (by kernel_rfl) (by kernel_rfl) (fun _ _ _ h=>h) (a0s ⟨by rfl,fun W f=>by go_simp⟩) c ?_;refine ah 8 (by kernel_rfl) rfl fun K g=>?_;go_simp;refine Shut.out g _ _ (ae a _ m) (fun t=>?_);clear g K;refine ah 9 (by kernel_rfl) rfl fun K g=>?_;go_simp;refine Shut.out g _ _ (ae a _ m) (fun u=>?_);clear g K;refine wpAnyH_done (by kernel_rfl) ?_ _;clear x c t u m a;clear Z;go_wp2_with fail;refine(dc _).mono ?_;rintro e x2 ⟨rfl,k⟩;rw[k];clear k x2;go_wp2;go_ret;exact⟨(ae n).1,rfl,(ae n).2⟩
theorem wl(B:BkI)(A:Bks B)(a:Option Addr)(cap n base:Nat)(l:List Int)(w:World)(u:l.length=n)(h:ce w base a l)(Z:base<=w.heap.size)(hm:n<=1000) :
  Calls prog B.b #[.slice a n cap] w fun e w'=>Below w.heap.size w w'/\if av l=true then ∃C,e = .returned (.agg C)/\bU w' base l C else e=jE:=by
 obtain⟨W0,hW0⟩:∃W,w.alloc (.cells po B.T)=W:=⟨_,rfl⟩;have S0:W0.heap.size=w.heap.size+1:=by rw[←hW0];exact dJ _ _
 have I:Below w.heap.size w W0:=by rw[←hW0];exact(a0c _ _).alloc (a0a _) _
 have T0:Hid (W0.there w.heap.size 0 19):=by rw[←hW0];exact kj w po _ _ rfl
 have r:bu W0 a l:=(h.later I).1;have G:=af (sD a cap n l W0 u r (by omega));have E0:=af hW0;unfold po at E0;have v:=af I;have y:=af S0;have Q:=af h;have S:=af u;clear hW0 S0 I;have m:=fun V=>Bkx.codeBook_any B A a cap n l W0 u r V;have s:=A.info;have K:=af A.ne;obtain⟨Y,D,L⟩:=A.und;rcases A with rfl|rfl|rfl;all_goals
  simp only[bkL,bkD,bkN]at E0 s m D ⊢;cases c:av l
  .
   rw[c]at G;simp only[a0Z,a00];clear c
   (first|go_enter func260,ntmps260|go_enter func261,ntmps261|go_enter func287,ntmps287)
   go_wp2_with fail;rw[ae E0];refine(ae G).mono ?_;rintro e x1 ⟨rfl,d⟩;rw[d];clear d x1;go_wp2_with fail;refine(eU _).mono ?_;rintro e x2 ⟨rfl,f⟩;rw[f];clear f x2;exact⟨rfl,ae v,rfl⟩
  .
   rw[c]at G;simp only[a0R];have J:=af (m (by have:=bQ c;omega));clear c r h u m
   (first|go_enter func260,ntmps260|go_enter func261,ntmps261|go_enter func287,ntmps287)
   go_wp2_with fail;rw[ae E0];refine(ae G).mono ?_;rintro e x1 ⟨rfl,d⟩;rw[d];clear d x1;go_wp2_with fail;refine(dc _).mono ?_;rintro e x2 ⟨rfl,f⟩;rw[f];clear f x2;go_wp2_with fail;refine(ae J).mono ?_;rintro e x3 ⟨vs,C,rfl,t,H,h2,hb⟩;obtain⟨q,sc,rfl⟩:=h2.form;have F:C.size=19:=by rw[t];simp[cN]
   have k:C.all (·.oneCell')=true:=by rw[t];exact jC rfl rfl rfl
   have z:Hid (x3.there w.heap.size 0 19):=fun j M=>by
    obtain⟨t1,t2⟩:=ae T0 j M;have E:w.heap.size<W0.heap.size:=by have:=ae y;omega
    exact⟨by rw[hb.cell (p:=⟨w.heap.size,0+j,none⟩) E];exact t1,by rw[hb.frozen (p:=⟨w.heap.size,0+j,none⟩) E];exact t2⟩
   have i:=af F;have x:=af k;have R:=af (a0b t (a0b H (a0b h2 hb)));clear F k t H h2 hb;go_wp2_with (refine wpList_store_mid rfl _ (.tmp 2) (.tmp 7) rfl w.heap.size 0 C rfl rfl (by rw[ae i];exact ae z) (by rw[ae i];exact s) (ae x) ?_);obtain⟨t,H,h2,hb⟩:=ae R;have X:=World.rangeAt_setCells_same x3 w.heap.size 0 C.toList (by rw[a2s,ae i];exact ae z);have N:∀j,j≠w.heap.size->(x3.setCells w.heap.size 0 C.toList).heap[j]?=x3.heap[j]?:=fun j M=>fu _ _ _ _ j M;have P:(x3.setCells w.heap.size 0 C.toList).heap.size=x3.heap.size:=size_setCells _ _ _ _;have o:=ak (ae v) hb;have s0:=ae y;refine a0t (eV rfl _ _ w.heap.size _ _ rfl X D L (by rw[a2s,ae i];exact s)) rfl ⟨below_setCells (a0a _) _ _ _ o,C,by simp,?_⟩;have u:=ae S;subst u;have O:ce (x3.setCells w.heap.size 0 C.toList) base a l:=(ae Q).moved (by rw[P];exact o.size) (fun g _ U _=>(N g (by omega)).trans (o.block g U));exact⟨a,cap,_,_,q,sc,t,O,((cf (bW l 15) (H.own (bW l 15))).mono (b':=w.heap.size+1) (by omega)).touch P N (by omega) |>.mono (by omega),((cf rfl h2 (ae K)).mono (b':=w.heap.size+1) (by omega)).touch P N (by omega) |>.mono (by omega)⟩
def td:=@rP bkL (.inl rfl)
def F4:=@wl bkL (.inl rfl)
def xZ:=@rP bkD (.inr (.inl rfl))
def BE:=@wl bkD (.inr (.inl rfl))
def Ci:=@rP bkN (.inr (.inr rfl))
def FU:=@wl bkN (.inr (.inr rfl))
end Go.Proofs.YtlpmnnjlmjffpaaGreatDoor
namespace Go.Proofs.YtlpmnnjlmjffpaaGreatDoor
open Go.Proofs.Tryz
open Go.RowKit Corb
variable {A D L l:List Int}{B V b g k kk n o p q q' sz:Nat}{C:Array Value}{R T T':List UInt8}{a:Option Addr}{d:Option (List UInt8×Nat)}{f:Bool}{s:ByteArray}{t:TypeId}{v v':Value}{w w' w1 w2 x x':World}
def Sou(w:World)(b:Nat)(s:ByteArray)(p:Nat)(T:List UInt8):Prop:=
 Rdr w b s p/\∃v,w.cell? ⟨b,3,none⟩=some v/\w.frozen? ⟨b,3,none⟩=false/\aN w (b+1) v T
theorem aN.keep1{base:Nat}{l:List UInt8}(h:aN w base v l)(a:aw b w w')(hb:b<base):aN w' base v l:=a.own h hb
theorem Sou.keep1(h:Sou w b s p T)(a:aw b w w')(d:Rdr w' b s q):Sou w' b s q T:=by
 obtain⟨_,v,c,f,o⟩:=h;exact⟨d,v,(a.3 3 (a0a _)).1.trans c,(a.3 3 (a0a _)).2.trans f,o.keep1 a (a0p _)⟩
theorem Sou.lt(h:Sou w b s p T):b<w.heap.size:=h.1.lt
structure KU (b:Nat) (w w':World):Prop where
 below:Below b w w'
 keep:∀k,k<w.heap.size->k≠b->(∀cur fr,w.heap[k]?≠some (.cells cur 5 fr))->w'.heap[k]?=w.heap[k]?
theorem KU.refl(b:Nat)(w:World):KU b w w:=⟨a0c _ _,fun _ _ _ _=>rfl⟩
theorem KU.trans(h:KU b w w1)(k:KU b w1 w2):KU b w w2:=
 ⟨h.1.trans k.1,fun j c a d=>(k.2 j (a0j c h.1.size) a (by rw[h.2 j c a d];exact d)).trans (h.2 j c a d)⟩
theorem aw.ku(h:aw b w w'):KU b w w':=⟨h.1,fun j c a _=>h.2 j c a⟩
theorem KU.later(h:KU b w w1)(hb:Below w1.heap.size w1 w2)(a:b<w1.heap.size):KU b w w2:=
 ⟨h.1.trans (hb.mono (a0C a)),fun j d c e=>(hb.block j (a0j d h.1.size)).trans (h.2 j d c e)⟩
theorem Sou.later(h:Sou w b s p T)(hb:Below w.heap.size w w'):Sou w' b s p T:=by
 obtain⟨r,v,c,f,o⟩:=h;exact⟨r.kept (hb.mono r.lt),v,(hb.cell (p:=⟨b,3,none⟩) r.lt).trans c,(hb.frozen (p:=⟨b,3,none⟩) r.lt).trans f,o.later hb (a0a _)⟩
theorem ce.ku{base:Nat}(h:ce w base a l)(c:KU b w w')(hb:b<base):ce w' base a l:=h.moved c.1.size (fun g f d e=>c.2 g d (by omega) e)
theorem bU.ku{base:Nat}(h:bU w base l C)(c:KU b w w')(hb:b<base):bU w' base l C:=by
 obtain⟨a,cap,ac,d,q,sc,e,f,h2,g⟩:=h;exact⟨a,cap,ac,d,q,sc,e,f.ku c hb,h2.ku c hb,g.ku c hb⟩
theorem fh.ku{base:Nat}(h:fh w base L D C)(a:KU b w w')(hb:b<base):fh w' base L D C:=by
 obtain⟨c,d,e,f,h2⟩:=h;exact⟨c,d,e,f.ku a hb,h2.ku a hb⟩
theorem fh.keep1{base:Nat}(h:fh w base L D C)(a:aw b w w')(hb:b<base):fh w' base L D C:=h.ku a.ku hb
theorem Bq{base:Nat}{l:List UInt8}(h:aN w base v l)(hb:b<base)(u:Value):aN (w.setCell ⟨b,o,none⟩ u) base v l:=by
 refine⟨h.1,?_⟩;rcases h.2 with e|⟨g,cap,a,rfl,c,d,rest⟩
 . exact .inl e
 . exact .inr ⟨g,cap,a,rfl,c,(a0S _ _ _ g (by show g≠b;omega)).trans d,rest⟩
def cP(w:World)(b:Nat)(s:ByteArray)(d:Option (List UInt8×Nat))(e:Ending)(w':World):Prop:=
 KU b w w'/\match d with
  | none=>e=jE
  | some (T,q)=>e = .returned (.tuple #[])/\Sou w' b s q T
theorem Ec(b p:Nat)(s:ByteArray)(T:List UInt8)(t:Tk)(w:World)(h:Sou w b s p T)(C:T.length<=300)(z:okT t=true) :
  Calls prog 256 #[.pointer (some ⟨b,0,none⟩),lV t] w (cP w b s ((dP T t).map fun x=>(x,p))):=by
 have u:=h.lt;obtain⟨A,v,c3,f3,m⟩:=h;obtain⟨n,g⟩:∃n,T.length=n:=⟨_,rfl⟩;obtain⟨a,cap,rfl⟩:=m.formN g;have i:=af (U.lzLay_any (b+1) n cap a T t w g m (by omega) u z);have E:=af A;have D:=af f3;unfold cP;rcases l:dP T t with _|T'
 .
  rw[l]at i;simp only[Option.map_none];clear l m C g z A f3;generalize lV t=tv at *
  go_enter func256,ntmps256;go_wp2_with fail;refine(ae i).mono ?_;rintro e x1 ⟨v1,rfl,o1,d⟩;simp only[Option.isSome_none];have o:Hid (KU b w x1):=⟨d.1.mono (a1e _),fun j r _ g=>d.2 j r g⟩;clear o1 d i;go_wp2_with fail;refine(eU _).mono ?_;rintro e x2 ⟨rfl,c⟩;rw[c];clear c x2;exact⟨rfl,ae o,rfl⟩
 .
  rw[l]at i;simp only[a3P];clear l m C g z A f3;generalize lV t=tv at *
  go_enter func256,ntmps256;go_wp2_with fail;refine(ae i).mono ?_;rintro e x1 ⟨v1,rfl,o1,d⟩;simp only[Option.isSome_some,a1c]at o1 ⊢;have o:Hid (KU b w x1):=⟨d.1.mono (a1e _),fun j r _ g=>d.2 j r g⟩;have k:=(ae E).kept d.1;have q:=(d.1.cell (p:=⟨b,3,none⟩) (a0p b)).trans c3;have f31:=(d.1.frozen (p:=⟨b,3,none⟩) (a0p b)).trans (ae D);obtain⟨a1,f,rfl⟩:=o1.form;have B:=af (a0b k o1);clear o1 d i k;go_wp2_with fail;refine(dc _).mono ?_;rintro e x2 ⟨rfl,c⟩;rw[c];clear c x2;go_wp2
  go_end0
  have F:KU b w (x1.setCell ⟨b,3,none⟩ (.slice a1 T'.length f)):=(ae o).trans ⟨aj (a0c _ _) (a0a _) _,fun j _ y _=>a0S _ _ _ j y⟩;refine⟨F,rfl,?_,.slice a1 T'.length f,World.cell?_setCell_same _ _ _ q,by simpa using f31,?_⟩
  . obtain⟨c0,c1,c2,g0,g1,g2,hb⟩:=(ae B).1;exact⟨by rw[World.cell?_setCell_other _ _ _ _ (by simp)];exact c0,by rw[World.cell?_setCell_other _ _ _ _ (by simp)];exact c1,by rw[World.cell?_setCell_other _ _ _ _ (by simp)];exact c2,by simpa using g0,by simpa using g1,by simpa using g2,by simpa using hb⟩
  . exact Bq (ae B).2 (a0p _) _
def TkP(w:World)(b:Nat)(s:ByteArray)(d:Option (Tk×Nat))(e:Ending)(w':World):Prop:=
 aw b w w'/\match d with
  | none=>e=jE
  | some (t,q)=>e = .returned (lV t)/\Rdr w' b s q
def okG(d:Option (Tk×Nat)):Option (Tk×Nat):=d.bind fun t=>if okT t.1=true then some t else none
theorem Dx{base:Nat}(h:fh w base L D C):∃a b,C=a++b/\bU w base L a/\bU w base D b/\(w.alloc (.cells C 227)).rangeAt w.heap.size 0 a.toList/\(w.alloc (.cells C 227)).rangeAt w.heap.size 19 b.toList:=by
 obtain⟨a,b,rfl,c,h2⟩:=h;obtain⟨d,e⟩:=qn (alloc_at w (.cells (a++b) 227)) c.size;exact⟨a,b,rfl,c,h2,d,e⟩
theorem qJ{c:List Value}(h:w.rangeAt g o c)(e:aw b w w')(d:g<w.heap.size)(a:g≠b):w'.rangeAt g o c:=fun j v f=>by
 rw[←h j v f];exact World.cell?_of_block (w:=w) (e.2 g d a)
theorem Dr(b p k:Nat)(C:Array Value)(s:ByteArray)(w:World)(a:Rdr w b s p)(g:k<256) :
  Calls prog 285 #[.pointer (some ⟨b,0,none⟩),.int .i64 (k:Nat),.agg C] w fun e w'=>aw b w w'/\e = .returned (lV ((k:Nat),0,0))/\Rdr w' b s p:=by
 have c:isB (((k:Nat):Int),0,0)=true:=by unfold isB inB;simp;omega
 rw[tV c];have h:(k:Int)<256:=by omega
 have i:IntKind.u8.wrap (k:Int)=(k:Int):=vT (by omega) (by omega);have d:Hid (aw b w (w.alloc (.cells C 227))):=(aw.refl b w).alloc a.lt _;have f:Hid (Rdr (w.alloc (.cells C 227)) b s p):=a.alloc _;clear a g c;go_enter func285,ntmps285;go_wp2;go_ret;exact⟨ae d,rfl,ae f⟩
theorem Dt(b p k base:Nat)(L D:List Int)(C:Array Value)(s:ByteArray)(w:World)(hr:Rdr w b s p)(hk:k<=900)(X:fh w base L D C)(ac:b<base)(f:av D=true)(hs:s.size<=2000000) :
  Calls prog 285 #[.pointer (some ⟨b,0,none⟩),.int .i64 ((k:Nat)+257),.agg C] w (TkP w b s (okG (ft (ai s) (8*s.size) D k p))):=by
 have a3:prog.follows .mixedOrders=true:=by kernel_rfl
 obtain⟨d,hd⟩:∃d,okG (ft (ai s) (8*s.size) D k p)=d:=⟨_,rfl⟩;rw[hd];have Hd:=af hd;obtain⟨T,o,rfl,G,h2,r1,r2⟩:=Dx X;have a2:=hr.lt;have hA:Below w.heap.size w (w.alloc (.cells (T++o) 227)):=(a0c _ _).alloc (a0a _) _;have a4:w.heap.size≠b:=by omega
 have bs:(prog.info? 225).map (·.size)=some o.size:=by rw[h2.size];exact Tryz.infoDistB
 have O:=af (a0b ((aw.refl b w).alloc a2 (.cells (T++o) 227)) (a0b (hr.alloc (.cells (T++o) 227)) (a0b (h2.later hA) r2)));have B:w.heap.size<(w.alloc (.cells (T++o) 227)).heap.size:=by simp
 have HS:=af hs;have U:=af f;have J:=af ac;clear hr X G h2 r1 r2 hd hs f ac;go_enter func285,ntmps285;go_wp2_with fail;generalize w.alloc (.cells (T++o) 227)=w1 at *
 generalize bq:w.heap.size=g at *
 clear bq hA a2;refine(uo w1).mono ?_;rintro e w2 ⟨rfl,R⟩;have a0:=(ae O).1.later R (ae O).2.1.lt;have a5:=(ae O).2.1.kept (R.mono (ae O).2.1.lt);have a7:=(ae O).2.2.1.later R;have ad:w2.rangeAt g 19 o.toList:=qK (ae O).2.2.2 R B;have z:g<w2.heap.size:=a0j B R.size;have n:=af (tF 3 4 28 b p k s w2 a5 (ae HS) (by omega) (by omega) (by omega) (by omega) (fun k h=>by omega) (by omega));have r:=af (a0b a0 (a0b a7 ad));clear R a0 a5 a7 ad O B;have ek:(k:Int)+257-256-1=(k:Int):=by omega
 unfold iG at n;rcases G:scG (ai s) (8*s.size) 3 4 28 k p with _|⟨x,q1⟩
 .
  rw[G]at n;have F:Hid (d=none):=by show d=none;rw[←ae Hd];unfold okG ft;rw[G];rfl
  clear G;go_wp2_with fail;refine(ae n).mono ?_;rintro e x3 ⟨Q,rfl⟩;refine⟨rfl,?_⟩;unfold TkP;rw[ae F];exact⟨(ae r).1.trans Q,rfl⟩
 .
  rw[G]at n;have aa:=Dc G;have H1:=af G;have bb:=af aa.1;clear G aa;go_wp2_with fail;refine(ae n).mono ?_;rintro e x3 ⟨Q,rfl,r3⟩;have a1:=(ae r).1.trans Q;have a9:=(ae r).2.1.keep1 Q (ae J);have al:=qJ (ae r).2.2 Q z a4;have ao:g<x3.heap.size:=a0j z Q.1.size;have c:=af (a0b a1 (a0b a9 (a0b al r3)));clear Q a1 a9 al r3 n r z;have m:Hid (∀W,aw b x3 W->W.rangeAt g 19 o.toList):=fun W h=>qJ (ae c).2.2.1 h ao a4;have P:aw b x3 x3.drew:=(aw.refl b x3).drew;go_wp2_with fail;refine wp_region_held_drew (S:=fun W=>W.rangeAt g 19 o.toList) a3 (ae m _ P) (fun Y=>?_);refine ag 0 (.pointer (some ⟨b,0,none⟩)) rfl (by kernel_rfl) (fun _ _ _ h=>h) rfl (fun W Z=>by go_simp) Y ?_;refine ag 2 (.pointer (some ⟨b,0,none⟩)) rfl (by kernel_rfl) (fun _ _ _ h=>h) rfl (fun W Z=>by go_simp) Y ?_;refine ag 3 (.pointer (some ⟨g,19,none⟩)) rfl (by kernel_rfl) (fun _ _ _ h=>h) rfl (fun W Z=>by go_simp) Y ?_;refine wpAnyH_take (i:=4) (v:=.agg o) rfl (by kernel_rfl) (by kernel_rfl) (by kernel_rfl) (fun _ _ _ h=>h) (je (by rfl) 225 (.tmp 25) rfl g 19 rfl o _ (fun _ h=>h) underlying225 rfl bs) Y ?_;refine ah 1 (by kernel_rfl) rfl fun K u=>?_;go_simp;go_at_call 244;refine(uf _).mono ?_;rintro e x4 ⟨rfl,b4⟩;have k4:aw b x3 x4:=P.later b4 (ae c).2.2.2.lt;have r4:Rdr x4 b s q1:=Rdr.kept (w:=x3.drew) (show Rdr x3.drew b s q1 from(ae c).2.2.2) (b4.mono (ae c).2.2.2.lt);have v4:=(ae c).2.1.keep1 k4 (ae J);have l:=af (xZ b q1 base o D s x4 v4 (ae J) (ae U) (ae HS) r4 (ae bb));refine Shut.out u _ _ (ae m _ k4) (fun bc=>?_);clear u K b4 v4;refine ah 5 (by kernel_rfl) rfl fun K u=>?_;go_simp;go_at_call 295;unfold SyP at l;rcases h2:dec D (ai s) (8*s.size) q1 with _|⟨j,q2⟩
  .
   rw[h2]at l;have F:Hid (d=none):=by show d=none;rw[←ae Hd];unfold okG ft;rw[ae H1];simp only[a0f];rw[h2];rfl
   refine(ae l).mono ?_;rintro e x5 ⟨k5,rfl⟩;refine⟨rfl,?_⟩;unfold TkP;rw[ae F];exact⟨(ae c).1.trans (k4.trans k5),rfl⟩
  .
   rw[h2]at l;have ab:=fo h2;have H2:=af h2;refine(ae l).mono ?_;rintro e x5 ⟨k5,rfl,r5⟩;have H:=k4.trans k5;refine Shut.out u _ _ (ae m _ H) (fun bd=>?_);clear u K k5 k4 r4 l;obtain⟨jn,hj⟩:=a0r ab.2.2.1;subst hj;have A:jn<=1000:=by have:=bQ (ae U);omega
   have a:=af (tF 1 2 30 b q2 jn s x5 r5 (ae HS) (by omega) (by omega) (by omega) (by omega) (fun k h=>by omega) A);refine ah 6 (by kernel_rfl) rfl fun K u=>?_;go_simp;go_at_call 294;unfold iG at a;rcases V:scG (ai s) (8*s.size) 1 2 30 jn q2 with _|⟨y,q3⟩
   .
    rw[V]at a;have F:Hid (d=none):=by show d=none;rw[←ae Hd];unfold okG ft;rw[ae H1];simp only[a0f];rw[ae H2];simp only[a0f,a0l];rw[V];rfl
    refine(ae a).mono ?_;rintro e x6 ⟨k6,rfl⟩;refine⟨rfl,?_⟩;unfold TkP;rw[ae F];exact⟨(ae c).1.trans (H.trans k6),rfl⟩
   .
    rw[V]at a;have H3:=af V;refine(ae a).mono ?_;rintro e x6 ⟨k6,rfl,r6⟩;have I:=H.trans k6;refine Shut.out u _ _ (ae m _ I) (fun be=>?_);clear u K;refine ah 7 (by kernel_rfl) rfl fun K u=>?_;go_simp;refine Shut.out u _ _ (ae m _ I) (fun bk=>?_);clear u K;refine wpAnyH_done (by kernel_rfl) ?_ _;have HE:Hid (d=if okT (0,(x:Int),(y:Int))=true then some ((0,(x:Int),(y:Int)),q3)else none):=by
     show d=_;rw[←ae Hd];unfold okG ft;rw[ae H1];simp only[a0f];rw[ae H2];simp only[a0f,a0l];rw[ae H3];rfl
    have q:=af (a0b ((ae c).1.trans I) r6);have N:=af (fun W=>JP (0,(x:Int),(y:Int)) W);clear Y bc bd be bk I H k6 r6 r5 m P h2 V ab A a;simp only at N;go_wp2_with fail;refine(ae N _).mono ?_;rintro e x7 ⟨rfl,b7⟩;have M:=af (a0b ((ae q).1.later b7 (ae q).2.lt) ((ae q).2.kept (b7.mono (ae q).2.lt)));clear b7 q N;cases f:okT (0,(x:Int),(y:Int))
    .
     have F:Hid (d=none):=by show d=none;rw[ae HE,f];rfl
     clear f;generalize lV (0,(x:Int),(y:Int))=tv at *
     go_wp2_with fail;refine(eU _).mono ?_;rintro e x8 ⟨rfl,E⟩;rw[E];clear E x8;refine⟨rfl,?_⟩;unfold TkP;rw[ae F];exact⟨(ae M).1,rfl⟩
    .
     have F:Hid (d=some ((0,(x:Int),(y:Int)),q3)):=by show d=_;rw[ae HE,f];rfl
     clear f;obtain⟨t,ht⟩:∃t:Tk,(0,(x:Int),(y:Int))=t:=⟨_,rfl⟩;rw[ht]at F ⊢;clear ht;generalize a6:lV t=tv at *
     have ba:=af a6;clear a6;go_wp2_with fail;refine(dc _).mono ?_;rintro e x8 ⟨rfl,E⟩;rw[E];clear E x8;go_wp2;go_ret;unfold TkP;rw[ae F];exact⟨(ae M).1,by rw[ae ba];rfl,(ae M).2⟩
theorem uA(b p:Nat)(s:ByteArray)(T:List UInt8)(w:World)(h:Sou w b s p T)(hT:T.length<=300)(hp:p<=8*s.size)(hs:s.size<=2000000) :
  Calls prog 215 #[.pointer (some ⟨b,0,none⟩)] w (cP w b s (dk (ai s) (8*s.size) p T)):=by
 obtain⟨d,hd⟩:∃d,dk (ai s) (8*s.size) p T=d:=⟨_,rfl⟩;rw[hd];have g:=af hd;have F:=af (na b p s w h.1 hs hp);have HS:=af h;have Q:=af (a0b hs hT);clear h hT hp hs hd;go_enter func215,ntmps215;unfold dk at g;rcases G:fk (ai s) p with _|q
 .
  rw[G]at F;have o:Hid (d=none):=by show d=none;rw[←ae g,G];rfl
  clear G g;go_wp2_with fail;refine(ae F).mono ?_;rintro e x1 ⟨M,rfl⟩;refine⟨rfl,?_⟩;unfold cP;rw[ae o];exact⟨M.ku,rfl⟩
 rw[G]at F g;clear G;simp only[a0f]at g;go_wp2_with fail;refine(ae F).mono ?_;rintro e x1 ⟨M,rfl,r1⟩;have m:=af (a0b M.ku ((ae HS).keep1 M r1));clear M r1 HS F;have f:=af (bS b q 16 s x1 (ae m).2.1 (ae Q).1 (by omega));rcases h2:rdN (ai s) (8*s.size) q 16 with _|⟨a,q2⟩
 .
  rw[h2]at f;unfold iG at f;have o:Hid (d=none):=by show d=none;rw[←ae g,h2];rfl
  clear h2 g;go_wp2_with fail;refine(ae f).mono ?_;rintro e x2 ⟨N,rfl⟩;refine⟨rfl,?_⟩;unfold cP;rw[ae o];exact⟨(ae m).1.trans N.ku,rfl⟩
 rw[h2]at f g;unfold iG at f;have ha:a<=65535:=by have:=(bm h2).2.2.2;omega
 clear h2;simp only[a0f]at g;go_wp2_with fail;refine(ae f).mono ?_;rintro e x2 ⟨N,rfl,r2⟩;have n:=af (a0b ((ae m).1.trans N.ku) ((ae m).2.keep1 N r2));clear N r2 m f;have f:=af (bS b q2 16 s x2 (ae n).2.1 (ae Q).1 (by omega));rcases B:rdN (ai s) (8*s.size) q2 16 with _|⟨c,q3⟩
 .
  rw[B]at f;unfold iG at f;have o:Hid (d=none):=by show d=none;rw[←ae g,B];rfl
  clear B g;go_wp2_with fail;refine(ae f).mono ?_;rintro e x3 ⟨O,rfl⟩;refine⟨rfl,?_⟩;unfold cP;rw[ae o];exact⟨(ae n).1.trans O.ku,rfl⟩
 rw[B]at f g;unfold iG at f;simp only[a0f]at g;go_wp2_with fail;refine(ae f).mono ?_;rintro e x3 ⟨O,rfl,r3⟩;have v:=af (a0b ((ae n).1.trans O.ku) ((ae n).2.keep1 O r3));clear O r3 n f;have U:bits .xor .i64 (a:Int) 65535=((65535-a:Nat):Int):=by
  rw[←Lq a ha];exact qx a 65535 (by omega) (by omega)
 by_cases r:c=65535-a
 .
  rw[a0e r]at g;have hb:((c:Int) == bits .xor .i64 (a:Int) 65535)=true:=by rw[U,r];exact beq_self_eq_true _
  clear B U r;go_wp2_with fail;refine(dc _).mono ?_;rintro e x4 ⟨rfl,t⟩;rw[t];clear t x4 hb;go_wp2_with fail
  go_loopw [14] (fun i wr=>∃(k q:Nat) (R:List UInt8),k<=a/\i = .int .i64 k/\KU b w wr/\Sou wr b s q R/\R.length<=300/\di (ai s) (8*s.size) (a-k) q R=d) (fun i _=>a-(intOf i).toNat)
  case atStart=>exact⟨0,q3,T,a0g _,rfl,(ae v).1,(ae v).2,(ae Q).2,ae g⟩
  case round=>
   obtain⟨k,q,R,hk,rfl,J,A,hR,hg⟩:=hrel;clear v g;have u:=af J;have x:=af A;have j:=af hg;have HR:=af hR;clear J A hg hR hk;by_cases Z:k<a
   .
    have K:(k:Int)<(a:Int):=by omega
    have e1:a-k=(a-(k+1))+1:=by omega
    have f:=af (bS b q 8 s wr (ae x).1 (ae Q).1 (by omega));rw[e1]at j;simp only[di]at j;clear e1;rcases H:rdN (ai s) (8*s.size) q 8 with _|⟨y,q4⟩
    .
     rw[H]at f j;unfold iG at f;have o:Hid (d=none):=by show d=none;rw[←ae j];rfl
     clear H j;go_wp2_with fail;refine(ae f).mono ?_;rintro e x5 ⟨P,rfl⟩;refine⟨rfl,?_⟩;unfold cP;rw[ae o];exact⟨(ae u).trans P.ku,rfl⟩
    rw[H]at f j;unfold iG at f;have hy:y<256:=by have:=(bm H).2.2.2;omega
    have hu:IntKind.u8.wrap (y:Int)=(y:Int):=vT (by omega) (by omega);have Y:isB (((y:Nat):Int),0,0)=true:=by unfold isB inB;simp;omega
    have L:okT (((y:Nat):Int),0,0)=true:=by unfold okT;rw[Y];rfl
    have E:=af (tV Y);clear H Y;simp only[a0f]at j;go_wp2_with fail;refine(ae f).mono ?_;rintro e x5 ⟨P,rfl,r5⟩;have l:=af ((ae u).trans P.ku);have z:=af ((ae x).keep1 P r5);clear P r5 f u x;have W:=af (Ec b q4 s R (((y:Nat):Int),0,0) x5 (ae z) (ae HR) L);rw[ae E]at W;clear L E;go_wp2_with fail;refine(ae W).mono ?_;intro e x6 I;unfold cP at I;rcases S:dP R (((y:Nat):Int),0,0)with _|R'
    .
     rw[S]at I j;obtain⟨V,rfl⟩:=I;have o:Hid (d=none):=by show d=none;rw[←ae j];rfl
     refine⟨rfl,?_⟩;unfold cP;rw[ae o];exact⟨(ae l).trans V,rfl⟩
    rw[S]at I j;obtain⟨V,rfl,s6⟩:=I;simp only[a0f]at j;have X:=af (oe S);have C:=af ((ae l).trans V);have D:=af s6;clear V s6 S l z W HR;go_wp2_with fail;go_roundw
    case rel=>exact⟨k+1,q4,R',Z,by go_num,ae C,ae D,ae X,ae j⟩
    case measure=>simp[intOf];omega
   .
    have K:¬ (k:Int)<(a:Int):=by omega
    have e0:a-k=0:=by omega
    rw[e0]at j;simp only[di]at j;go_wp2
    go_end0
    unfold cP;rw[←ae j];exact⟨ae u,rfl,ae x⟩
 .
  rw[a0d r]at g;have hb:((c:Int) == bits .xor .i64 (a:Int) 65535)=false:=by rw[U,a0V];omega
  have o:Hid (d=none):=by show d=none;rw[←ae g]
  clear g U r B;go_wp2_with fail;refine(eU _).mono ?_;rintro e x4 ⟨rfl,t⟩;rw[t];clear t x4;refine⟨rfl,?_⟩;unfold cP;rw[ae o];exact⟨(ae v).1,rfl⟩
def qG(V sz:Nat)(L D:List Int)(k:Int)(q:Nat)(R:List UInt8):Option (List UInt8×Nat):=
 if k=256 then some (R,q)else(oneG V sz D k q).bind fun t=>(dP R t.1).bind fun T'=>gp V sz L D t.2 T'
theorem vO: gp V sz L D p T=(dec L V sz p).bind fun k=>qG V sz L D k.1 k.2 T:=by
 rcases h:dec L V sz p with _|⟨i,q⟩
 . rw[vP h];rfl
 .
  simp only[a0f];unfold qG;by_cases a:i=256
  . subst a;rw[tU h,a0e rfl]
  . rw[qf h a,a0d a]
theorem Gl{k:Int}(b:k≠256)(h:okG (oneG V sz D k q)=none):qG V sz L D k q R=none:=by
 unfold qG;rw[a0d b];unfold okG at h;rcases a:oneG V sz D k q with _|⟨t,r⟩
 . rfl
 .
  rw[a]at h;simp only[a0f]at h ⊢
  split at h
  . cases h
  . rw[H9 (Bool.eq_false_iff.2 (by assumption))];rfl
theorem Cu{k:Int}{r:Nat}{t:Tk}(b:k≠256)(h:okG (oneG V sz D k q)=some (t,r)):oneG V sz D k q=some (t,r)/\okT t=true/\qG V sz L D k q R=(dP R t).bind fun T'=>gp V sz L D r T':=by
 unfold okG at h;rcases a:oneG V sz D k q with _|⟨t',c⟩
 . rw[a]at h;cases h
 .
  rw[a]at h;simp only[a0f]at h
  split at h
  . simp only[a0k,a0O]at h;obtain⟨rfl,rfl⟩:=h;refine⟨rfl,by assumption,?_⟩;unfold qG;rw[a0d b,a];rfl
  . cases h
theorem GU(b p base:Nat)(k:Int)(L D:List Int)(C:Array Value)(s:ByteArray)(w:World)(g:Rdr w b s p)(i:0<=k)(q:k<=1000)(l:k≠256)(c:fh w base L D C)(d:b<base)(f:av D=true)(o:s.size<=2000000) :
  Calls prog 285 #[.pointer (some ⟨b,0,none⟩),.int .i64 k,.agg C] w (TkP w b s (okG (oneG (ai s) (8*s.size) D k p))):=by
 obtain⟨n,rfl⟩:=a0r i;by_cases h:n<256
 .
  have j:isB (((n:Nat):Int),0,0)=true:=by unfold isB inB;simp;omega
  have a:okT (((n:Nat):Int),0,0)=true:=by unfold okT;rw[j];rfl
  have e:okG (oneG (ai s) (8*s.size) D (n:Int) p)=some ((((n:Nat):Int),0,0),p):=by
   unfold oneG okG;rw[a0e (by omega)];simp only[a0f];rw[a0e a]
  rw[e];exact Dr b p n C s w g h
 .
  obtain⟨m,rfl⟩:∃m,n=m+257:=⟨n-257,by omega⟩;have e:oneG (ai s) (8*s.size) D ((m+257:Nat):Int) p=ft (ai s) (8*s.size) D m p:=by
   unfold oneG;rw[a0d (by omega)];rw[show(((m+257:Nat):Int).toNat-257)=m by omega]
  rw[e];exact Dt b p m base L D C s w g (by omega) c d f o
def kQ(b:Nat)(w:World):Nat:=match w.cell? ⟨b,1,none⟩with
 | some v=>(intOf v).toNat
 | none=>0
theorem Sou.place(h:Sou w b s p T)(c:p<=8*s.size):kQ b w=p:=by
 have a:=(h.1.at c).2.1;unfold kQ;rw[a];simp[intOf]
theorem qV(h:w.heap[g]?=some (Obj.cells C t)):w.rangeAt g 0 C.toList:=by
 intro j v a;rw[a0J,lv h];simpa using a
theorem KU.books(h:KU b w w')(a:w.heap[g]?=some (Obj.cells C 227))(e:g≠b):w'.heap[g]?=some (Obj.cells C 227):=by
 have d:g<w.heap.size:=by
  rcases a08 g w.heap.size with c|c
  . exact c
  . rw[Array.getElem?_eq_none c]at a;cases a
 rw[h.2 g d e (by intro i fr f;rw[a]at f;simp at f)];exact a
def TkI(b g base:Nat)(s:ByteArray)(L D:List Int)(C:Array Value)(d:Option (List UInt8×Nat))(w:World)(i:Value)(wr:World):Prop:=
 ∃(k:Int) (q:Nat) (R:List UInt8),i = .int .i64 k/\0<=k/\k<=1000/\KU b w wr/\Sou wr b s q R/\R.length<=300/\q<=8*s.size/\wr.heap[g]?=some (Obj.cells C 227)/\fh wr base L D C/\qG (ai s) (8*s.size) L D k q R=d
theorem tW(b p base:Nat)(s:ByteArray)(L D:List Int)(C:Array Value)(T:List UInt8)(w:World)(h:Sou w b s p T)(hT:T.length<=300)(hp:p<=8*s.size)(hs:s.size<=2000000)(X:fh w base L D C)(Z:b<base)(hL:av L=true)(hD:av D=true) :
  Calls prog 257 #[.pointer (some ⟨b,0,none⟩),.agg C] w (cP w b s (gp (ai s) (8*s.size) L D p T)):=by
 obtain⟨d,hd⟩:∃d,gp (ai s) (8*s.size) L D p T=d:=⟨_,rfl⟩;rw[hd];have hd:=vO.symm.trans hd;have a1:=h.lt;have A:w.heap.size≠b:=by omega
 have hA:Below w.heap.size w (w.alloc (.cells C 227)):=(a0c _ _).alloc (a0a _) _;have Y:=h.later hA;have V:=X.later hA;have x:KU b w (w.alloc (.cells C 227)):=(KU.refl b w).later hA a1;have v:=alloc_at w (.cells C 227);have m:=af (a0b hs (a0b Z (a0b hL hD)));have HT:=af hT;have P:=af (bQ hL);obtain⟨j,C2,rfl,b1,b2⟩:=X;have z:=b1.size;have ab:=b2.size;have M:=af (a0b z (show(j++C2).size=38 by rw[a24,z,ab]));have F:Hid (∀W:World,W.heap[w.heap.size]?=some (Obj.cells (j++C2) 227)->W.rangeAt w.heap.size 0 j.toList):=fun W h=>(qn h z).1;have O:Hid (∀W,fh W base L D (j++C2)->bU W base L j):=by
  intro W hW;obtain⟨E1,E2,e,f1,f2⟩:=hW;have:=f1.size;have e1:j=E1:=by
   have E:=congrArg Array.toList e;simp only[a1n]at E;have h2:=a1h E (by simp[z,this]);exact Array.ext' h2.1
  rw[e1];exact f1
 clear b1 b2 h Z hL hD hT z ab hs;generalize hC:j++C2=C at *
 go_enter func257,ntmps257;have f:=af (a0b x (a0b Y (a0b V v)));clear x Y V v hA;have c:=af (td b p base j L s (w.alloc (.cells C 227)) (ae O _ (ae f).2.2.1) (ae m).2.1 (ae m).2.2.1 (ae m).1 (ae f).2.1.1 hp);clear hp;unfold SyP at c;rcases E:dec L (ai s) (8*s.size) p with _|⟨k,q⟩
 .
  rw[E]at c hd;have H:Hid (d=none):=by show d=none;rw[←hd];rfl
  clear E hd;go_wp2_with (refine bJ rfl 222 (.tmp 6) rfl w.heap.size 0 rfl j _ (ae F _ (ae f).2.2.2) a3a rfl (by rw[(ae M).1];exact Tryz.infoLitB) ?_);refine(ae c).mono ?_;rintro e x1 ⟨B,rfl⟩;refine⟨rfl,?_⟩;unfold cP;rw[ae H];exact⟨(ae f).1.trans B.ku,rfl⟩
 rw[E]at c hd;have hb:=fo E;clear E;simp only[a0f]at hd;go_wp2_with (refine bJ rfl 222 (.tmp 6) rfl w.heap.size 0 rfl j _ (ae F _ (ae f).2.2.2) a3a rfl (by rw[(ae M).1];exact Tryz.infoLitB) ?_);refine(ae c).mono ?_;rintro e x1 ⟨B,rfl,r1⟩;have HI:Hid (TkI b w.heap.size base s L D C d w (.int .i64 k) x1):=
  ⟨k,q,T,rfl,hb.2.2.1,by have:=ae P;omega,(ae f).1.trans B.ku,(ae f).2.1.keep1 B r1,ae HT,hb.1,B.ku.books (ae f).2.2.2 A,(ae f).2.2.1.keep1 B (ae m).2.1,hd⟩
 clear B r1 c hb hd f HT;go_wp2_with fail
 go_loopw [4] (fun i wr=>TkI b w.heap.size base s L D C d w i wr) (fun _ wr=>8*s.size-kQ b wr)
 case atStart=>exact ae HI
 case round=>
  obtain⟨k,q,R,rfl,k0,B,x,y,hR,hq,v,aa,hn⟩:=hrel;clear HI;have f:=af (a0b x (a0b y (a0b hR (a0b hq (a0b v aa)))));have a:=af hn;have ad:=af (y.place hq);clear x y hR hq v aa hn;by_cases hk:k=256
  .
   subst hk;go_wp2
   go_end0
   unfold cP;rw[←ae a];unfold qG;rw[a0e rfl];exact⟨(ae f).1,rfl,(ae f).2.1⟩
  have a2:(k == 256)=false:=by rw[a0V];exact hk
  have n:=af (GU b q base k L D C s wr (ae f).2.1.1 k0 B hk (ae f).2.2.2.2.2 (ae m).2.1 (ae m).2.2.2 (ae m).1);have G:=af (qV (ae f).2.2.2.2.1);unfold TkP at n;rcases h2:okG (oneG (ai s) (8*s.size) D k q)with _|⟨t,r⟩
  .
   rw[h2]at n;have H:Hid (d=none):=by show d=none;rw[←ae a];exact Gl hk h2
   clear h2;go_wp2_with (refine bJ rfl 227 (.tmp 3) rfl w.heap.size 0 rfl C _ (ae G) underlying227 rfl (by rw[(ae M).2];exact Tryz.infoBooks) ?_);refine(ae n).mono ?_;rintro e x2 ⟨J,rfl⟩;refine⟨rfl,?_⟩;unfold cP;rw[ae H];exact⟨(ae f).1.trans J.ku,rfl⟩
  rw[h2]at n;obtain⟨n1,n2,n3⟩:=Cu (L:=L) (R:=R) hk h2;have Q:=af (rE n1 (ae f).2.2.2.1);rw[n3]at a;have a0:=af n2;clear h2 n1 n2 n3;go_wp2_with (refine bJ rfl 227 (.tmp 3) rfl w.heap.size 0 rfl C _ (ae G) underlying227 rfl (by rw[(ae M).2];exact Tryz.infoBooks) ?_);refine(ae n).mono ?_;rintro e x2 ⟨J,rfl,r2⟩;have o:=af (a0b ((ae f).1.trans J.ku) (a0b ((ae f).2.1.keep1 J r2) (a0b (J.ku.books (ae f).2.2.2.2.1 A) ((ae f).2.2.2.2.2.keep1 J (ae m).2.1))));have ao:=af (a0b (ae f).2.2.1 (ae f).2.2.2.1);clear J r2 n f G;have l:=af (Ec b r s R t x2 (ae o).2.1 (ae ao).1 (ae a0));generalize lV t=tv at *
  unfold cP at l;rcases S:dP R t with _|R'
  .
   rw[S]at l a;have H:Hid (d=none):=by show d=none;rw[←ae a];rfl
   clear S;go_wp2_with fail;refine(ae l).mono ?_;rintro e x3 ⟨N,rfl⟩;refine⟨rfl,?_⟩;unfold cP;rw[ae H];exact⟨(ae o).1.trans N,rfl⟩
  rw[S]at l a;have al:=af (oe S);clear S;simp only[a0f]at a;rw[vO]at a;go_wp2_with fail;refine(ae l).mono ?_;rintro e x3 ⟨N,rfl,s3⟩;have g:=af (a0b ((ae o).1.trans N) (a0b s3 (a0b (N.books (ae o).2.2.1 A) ((ae o).2.2.2.ku N (ae m).2.1))));clear N s3 l o;have c:=af (td b r base j L s x3 (ae O _ (ae g).2.2.2) (ae m).2.1 (ae m).2.2.1 (ae m).1 (ae g).2.1.1 (ae Q).1);have u:=af (ae F _ (ae g).2.2.1);unfold SyP at c;rcases U:dec L (ai s) (8*s.size) r with _|⟨k',q'⟩
  .
   rw[U]at c a;have H:Hid (d=none):=by show d=none;rw[←ae a];rfl
   clear U;go_wp2_with (refine bJ rfl 222 (.tmp 12) rfl w.heap.size 0 rfl j _ (ae u) a3a rfl (by rw[(ae M).1];exact Tryz.infoLitB) ?_);refine(ae c).mono ?_;rintro e x4 ⟨K,rfl⟩;refine⟨rfl,?_⟩;unfold cP;rw[ae H];exact⟨(ae g).1.trans K.ku,rfl⟩
  rw[U]at c a;have hb:=fo U;clear U;simp only[a0f]at a;go_wp2_with (refine bJ rfl 222 (.tmp 12) rfl w.heap.size 0 rfl j _ (ae u) a3a rfl (by rw[(ae M).1];exact Tryz.infoLitB) ?_);refine(ae c).mono ?_;rintro e x4 ⟨K,rfl,r4⟩;have I:=(ae g).2.1.keep1 K r4;have ac:=af (I.place hb.1);have HI:Hid (TkI b w.heap.size base s L D C d w (.int .i64 k') x4):=
   ⟨k',q',R',rfl,hb.2.2.1,by have:=ae P;omega,(ae g).1.trans K.ku,I,ae al,hb.1,K.ku.books (ae g).2.2.1 A,(ae g).2.2.2.keep1 K (ae m).2.1,ae a⟩
  have Hm:Hid (q<q'/\q'<=8*s.size):=⟨by have:=ae Q;omega,hb.1⟩;clear K r4 I hb c u g;go_wp2_with fail;go_roundw
  case rel=>exact ae HI
  case measure=>rw[ae ac,ae ad];have:=ae Hm;omega
theorem dO.below(h:dO w)(hb:Below B w w')(a:2<B):dO w':=
 ⟨fun j v b=>(hb.cell (p:=⟨2,0+j,none⟩) a).trans (h.1 j v b),a0j h.2 hb.size⟩
theorem dO.cell(h:dO w)(a:k<19):w.cell? ⟨2,k,none⟩=some (.int .i64 (bp.getD k 0:Nat)):=by
 have:=h.1 k (.int .i64 (bp.getD k 0:Nat)) (by rw[Array.getElem?_toList];exact zB k a);rwa[a0J]at this
theorem zG{m:Nat}(h:k<m)(b:m<=19):(bp.take m).drop k=bp.getD k 0 :: (bp.take m).drop (k+1):=by
 have a:k<(bp.take m).length:=by rw[a0v];have:bp.length=19:=rfl;omega
 rw[a2V a]
 congr 1
 have h2:k<bp.length:=by have:bp.length=19:=rfl;omega
 simp[List.getD,h2]
def LbP(w:World)(b:Nat)(s:ByteArray)(d:Option (List Int×Nat))(e:Ending)(w':World):Prop:=
 aw b w w'/\match d with
  | none=>e=jE
  | some (l,q)=>(∃C,e = .returned (.agg C)/\bU w' w.heap.size l C)/\Rdr w' b s q
theorem aw.set(h:aw b w x)(d:w.heap.size<=g)(hb:b<w.heap.size)(u:Value):aw b w (x.setCell ⟨g,o,none⟩ u):=
 ⟨aj h.1 (by omega) u,fun j a c=>(a0S _ _ _ j (by show j≠g;omega)).trans (h.2 j a c),fun j a=>⟨by rw[World.cell?_setCell_other _ _ _ _ (by simp only[ne_eq,a0F];omega)];exact(h.3 j a).1,by simpa using(h.3 j a).2⟩⟩
theorem aw.setCells(h:aw b w x)(i:w.heap.size<=g)(hb:b<w.heap.size)(o:Nat)(us:List Value):aw b w (x.setCells g o us):=by
 have e:∀j,j≠g->(x.setCells g o us).heap[j]?=x.heap[j]?:=fun j c=>fu _ _ _ _ j c;refine⟨below_setCells (by omega) _ _ _ h.1,fun j c d=>(e j (by omega)).trans (h.2 j c d),fun j c=>?_⟩;have f:=e b (by omega);exact⟨(World.cell?_of_block (w:=x) f (a:=⟨b,j,none⟩)).trans (h.3 j c).1,by rw[World.frozen?_setCells];exact(h.3 j c).2⟩
theorem Rdr.set(h:Rdr x b s p)(a:g≠b)(u:Value):Rdr (x.setCell ⟨g,o,none⟩ u) b s p:=by
 obtain⟨c0,c1,c2,g0,g1,g2,hb⟩:=h;exact⟨by rw[World.cell?_setCell_other _ _ _ _ (by simp only[ne_eq,a0F];omega)];exact c0,by rw[World.cell?_setCell_other _ _ _ _ (by simp only[ne_eq,a0F];omega)];exact c1,by rw[World.cell?_setCell_other _ _ _ _ (by simp only[ne_eq,a0F];omega)];exact c2,by simpa using g0,by simpa using g1,by simpa using g2,by simpa using hb⟩
theorem Ap(h:w.there g 0 n)(i:aw b w w')(e:g<w.heap.size)(c:g≠b):w'.there g 0 n:=fun j f=>by
 obtain⟨t1,t2⟩:=h j f;have d:=i.2 g e c;exact⟨by rw[World.cell?_of_block (w:=w) d (a:=⟨g,0+j,none⟩)];exact t1,by rw[World.frozen?_of_block (w:=w) d (a:=⟨g,0+j,none⟩)];exact t2⟩
theorem ay.keep1'{base:Nat}(h:ay w base v l)(a:aw b w w')(hb:b<base):ay w' base v l:=a.own h hb
def LbI(b gL many:Nat)(s:ByteArray)(d:Option (List Int×Nat))(w:World)(i:Value)(wr:World):Prop:=
 ∃(k q:Nat) (l:List Int),i = .int .i64 k/\k<=many/\aw b w wr/\Rdr wr b s q/\q<=8*s.size/\ay wr (w.heap.size+1) (.slice (some ⟨gL,0,none⟩) 19 19) l/\l.length=19/\wr.there w.heap.size 0 19/\dO wr/\w.heap.size<wr.heap.size/\lbG (ai s) (8*s.size) ((bp.take many).drop k) q l=d
theorem xg(b p many:Nat)(s:ByteArray)(w:World)(h:Rdr w b s p)(hp:p<=8*s.size)(hs:s.size<=2000000)(hm:many<=19)(D:dO w)(hb:2<b) :
  Calls prog 259 #[.pointer (some ⟨b,0,none⟩),.int .i64 (many:Nat)] w (LbP w b s (iT (ai s) (8*s.size) many p)):=by
 have al:prog.follows .mixedOrders=true:=by kernel_rfl
 obtain⟨i0,hi,ao,a0,a1⟩:=a0w Tryz.infoInt;obtain⟨d,hd⟩:∃d,lbG (ai s) (8*s.size) (bp.take many) p (List.replicate 19 0)=d:=⟨_,rfl⟩;unfold iT;rw[hd];have f:=h.lt;have a6:(many:Int)<=19:=by omega
 obtain⟨W0,hW0⟩:∃W,w.alloc (.cells po 278)=W:=⟨_,rfl⟩;have S0:W0.heap.size=w.heap.size+1:=by rw[←hW0];exact dJ _ _
 have B0:Below w.heap.size w W0:=by rw[←hW0];exact(a0c _ _).alloc (a0a _) _
 have T0:W0.there w.heap.size 0 19:=by rw[←hW0];exact kj w po _ _ rfl
 have c:=af (a0b h (a0b hp (a0b D (a0b B0 (a0b T0 S0)))));have y:=af (a0b hs (a0b hm (a0b hb f)));have HD:=af hd;have E0:=af hW0;unfold po at E0;clear h hp hs hm D hb f hd hW0 B0 T0 S0;go_enter func259,ntmps259;go_wp2_with (at_make;refine a19 _ rfl _ _ 65 rfl (w.heap.size+1) 3 i0 (.int .i64 0) 1 a0I hi ao a0 .i64 .i64 _ _ 19 rfl rfl rfl rfl (by rw[a1];omega) (by unfold maxLen;omega) (by simp) ?_;intro w1 n m);rw[ae E0]at n m;rw[(ae c).2.2.2.2.2]at n;have Z:ay w1 (w.heap.size+1) (.slice (some ⟨w.heap.size+1,0,none⟩) 19 19) (List.replicate 19 0):=eT n;have A:Below (w.heap.size+1) W0 w1:=(a0c _ _).grown m (by rw[(ae c).2.2.2.2.2];exact a0a _) (fun k h=>by cases h);clear n m hi ao a0 a1 E0;have HI:Hid (LbI b (w.heap.size+1) many s d w (.int .i64 (0:Nat)) w1):=by
  obtain⟨h,hp,D,B0,T0,S0⟩:=ae c;have f:=(ae y).2.2.2;have bb:Below w.heap.size w w1:=B0.trans (A.mono (a1e _));refine⟨0,p,List.replicate 19 0,rfl,a0g _,(aw.refl b w).later bb f,h.kept (bb.mono f),hp,Z,by simp,?_,D.later bb,by have:=A.size;omega,ae HD⟩;intro j N;obtain⟨t1,t2⟩:=T0 j N;exact⟨by rw[A.cell (p:=⟨w.heap.size,0+j,none⟩) (a0p _)];exact t1,by rw[A.frozen (p:=⟨w.heap.size,0+j,none⟩) (a0p _)];exact t2⟩
 clear c HD Z A
 go_loopw [6,9] (fun _ i wr=>LbI b (w.heap.size+1) many s d w i wr) (fun _ i _=>many-(intOf i).toNat)
 case atStart=>exact ae HI
 case round=>
  obtain⟨k,q,l,rfl,hk,E,O,hq,ho,U,G,D,F,hd⟩:=hrel;clear HI;have a4:w.heap.size+1≠b:=by have:=(ae y).2.2.2;omega
  by_cases ad:k<many
  .
   have a3:(k:Int)<(many:Int):=by omega
   have H:k<19:=by have:=(ae y).2.1;omega
   have a5:=Cv k H;rw[zG ad (ae y).2.1]at hd;simp only[lbG]at hd;have Q:=af (bS b q 3 s wr.drew (show Rdr wr.drew b s q from O) (ae y).1 (by omega));have c:=af (a0b E (a0b O (a0b hq (a0b ho (a0b U (a0b G (a0b D F)))))));have J:Hid (∀W,aw b wr.drew W->W.cell? ⟨2,k,none⟩=some (.int .i64 (bp.getD k 0:Nat))):=fun W h=>(dO.below (w:=wr.drew) (show dO wr.drew from D) h.1 (ae y).2.2.1).cell H;have u:=af hd;clear E O hq ho U G D F hk hd;generalize bp.getD k 0=o at *
   have a7:(o:Int)<19:=by omega
   go_wp2_with fail;refine wp_region_held_drew (S:=fun W=>W.cell? ⟨2,k,none⟩=some (.int .i64 (o:Nat))) al (ae J _ (aw.refl _ _)) (fun T=>?_);refine ag 0 (.slice (some ⟨w.heap.size+1,0,none⟩) 19 19) rfl (by kernel_rfl) (fun _ _ _ h=>h) rfl (fun W z=>by go_simp) T ?_;refine ag 1 (.int .i64 (k:Nat)) rfl (by kernel_rfl) (fun _ _ _ h=>h) rfl (fun W z=>by go_simp) T ?_;refine ag 2 (.pointer (some ⟨2,k,none⟩)) rfl (by kernel_rfl) (fun _ _ _ h=>h) rfl (fun W z=>by go_simp<;>(intro h;omega)) T ?_;refine ag 3 (.int .i64 (o:Nat)) rfl (by kernel_rfl) (fun _ _ _ h=>h) rfl (fun W z=>by go_simp) T ?_;refine ag 4 (.pointer (some ⟨b,0,none⟩)) rfl (by kernel_rfl) (fun _ _ _ h=>h) rfl (fun W z=>by go_simp) T ?_;refine ah 5 (by kernel_rfl) rfl fun K Y=>?_;go_simp;go_at_call 218;unfold iG at Q;rcases h1:rdN (ai s) (8*s.size) q 3 with _|⟨x,q1⟩
   .
    rw[h1]at Q u;have Hn:Hid (d=none):=by show d=none;rw[←ae u];rfl
    refine(ae Q).mono ?_;rintro e x1 ⟨P,rfl⟩;refine⟨rfl,?_⟩;unfold LbP;rw[ae Hn];exact⟨(ae c).1.trans ((aw.refl b wr).drew.trans P),rfl⟩
   .
    rw[h1]at Q u;simp only[a0f]at u;have a2:=af (bm h1);clear h1;refine(ae Q).mono ?_;rintro e x1 ⟨P,rfl,r1⟩;refine Shut.out Y _ _ (ae J _ P) (fun M=>?_);clear Y K;have t:aw b wr x1:=(aw.refl b wr).drew.trans P;have f:=(ae y).2.2.2;have o1:=(ae c).2.2.2.1.keep1' t (by omega);obtain⟨c1,f1,_,_⟩:=o1.at (ae c).2.2.2.2.1 a5;refine wpAnyH_take (i:=6) (v:=.pointer (some ⟨w.heap.size+1,o,none⟩)) rfl (by kernel_rfl) (by kernel_rfl) (by kernel_rfl) (fun _ _ _ h=>h) (a0s ⟨by rfl,fun W z=>by go_simp<;>(intro h;omega)⟩) M ?_;refine ah 7 (by kernel_rfl) rfl fun K Y=>?_;go_simp;have ab:w.heap.size<wr.heap.size:=(ae c).2.2.2.2.2.2.2;have th1:=Ap (ae c).2.2.2.2.2.1 t ab (by omega);have HI:Hid (LbI b (w.heap.size+1) many s d w (.int .i64 (k+1:Nat)) (x1.setCell ⟨w.heap.size+1,o,none⟩ (.int .i64 (x:Nat)))):=by
     refine⟨k+1,q1,l.set o (x:Nat),rfl,ad,((ae c).1.trans t).set (by omega) f _,r1.set a4 _,(ae a2).1,o1.put (ae c).2.2.2.2.1 _,by rw[a1I];exact(ae c).2.2.2.2.1,?_,?_,by simp;exact a0j ab t.1.size,ae u⟩
     . intro j N;obtain⟨t1,t2⟩:=th1 j N;exact⟨by rw[World.cell?_setCell_other _ _ _ _ (by simp)];exact t1,by simpa using t2⟩
     . exact((ae c).2.2.2.2.2.2.1.below t.1 (ae y).2.2.1).below (aj (a0c b x1) (by omega) _) (ae y).2.2.1
    have aa:(x1.setCell ⟨w.heap.size+1,o,none⟩ (.int .i64 (x:Nat))).cell? ⟨2,k,none⟩=some (.int .i64 (o:Nat)):=by
     rw[World.cell?_setCell_other _ _ _ _ (by simp only[ne_eq,a0F];have:=(ae y).2.2.1;omega)];exact M
    refine Shut.out Y _ _ aa (fun _=>?_);clear Y K;refine wpAnyH_done (by kernel_rfl) ?_ _;clear T M aa P t r1 o1 th1 J Q c c1 f1;generalize x1.setCell ⟨w.heap.size+1,o,none⟩ (.int .i64 (x:Nat))=x2 at *
    go_wp2_with fail;go_roundw
    case rel=>exact ae HI
    case measure=>simp[intOf];omega
  .
   have a3:¬ (k:Int)<(many:Int):=by omega
   have e0:(bp.take many).drop k=[]:=a2P (by rw[a0v];omega);rw[e0]at hd;simp only[lbG]at hd;have HE:=af hd;have f:=(ae y).2.2.2;have HJ:=af (cf U (ho.own U));have g:=af (FU _ 19 19 (w.heap.size+1) l wr U (ae HJ) (by omega) (by omega));have c:=af (a0b E (a0b O (a0b G F)));clear E O hq ho U G D F hk e0;cases r:av l
   . rw[r]at g;simp only[a0Z,a00]at g;have I:=af r;clear r hd;go_wp2_with fail;refine(ae g).mono ?_;rintro e x1 ⟨L,rfl⟩;refine⟨rfl,?_⟩;unfold LbP;rw[←ae HE];simp only[a0f];rw[ae I];exact⟨(ae c).1.later L (ae c).2.1.lt,rfl⟩
   .
    rw[r]at g;simp only[a0R]at g;have I:=af r;clear r hd;go_wp2_with fail;refine(ae g).mono ?_;rintro e x1 ⟨L,C,rfl,R⟩;have X:Hid (x1.there w.heap.size 0 19):=fun j N=>by
     obtain⟨t1,t2⟩:=(ae c).2.2.1 j N;have f:=(ae c).2.2.2;exact⟨by rw[L.cell (p:=⟨w.heap.size,0+j,none⟩) f];exact t1,by rw[L.frozen (p:=⟨w.heap.size,0+j,none⟩) f];exact t2⟩
    have B:=af R.size;have V:=af R.one;have HY:=af (a0b ((ae c).1.later L (ae c).2.1.lt) (a0b ((ae c).2.1.kept (L.mono (ae c).2.1.lt)) R));clear L R g HJ c;go_wp2_with (refine wpList_store_mid rfl 278 (.tmp 4) (.tmp 21) rfl w.heap.size 0 C rfl rfl (by rw[ae B];exact ae X) (by rw[ae B];exact Tryz.infoLenB) (ae V) ?_);obtain⟨P,r1,R⟩:=ae HY;have O:=World.rangeAt_setCells_same x1 w.heap.size 0 C.toList (by rw[a2s,ae B];exact ae X);have hk:∀j,j≠w.heap.size->(x1.setCells w.heap.size 0 C.toList).heap[j]?=x1.heap[j]?:=fun j N=>fu _ _ _ _ j N;have hz:(x1.setCells w.heap.size 0 C.toList).heap.size=x1.heap.size:=size_setCells _ _ _ _;refine a0t (eV rfl _ _ w.heap.size _ _ rfl O a3I rfl (by rw[a2s,ae B];exact Tryz.infoLenB)) rfl ?_;unfold LbP;rw[←ae HE];simp only[a0f];rw[ae I];refine⟨P.setCells (a0a _) f _ _,⟨C,by simp,(R.touch hz hk (a0p _)).mono (a1e _)⟩,?_⟩;obtain⟨c0,c1,c2,g0,g1,g2,hb⟩:=r1;have ac:=hk b (by omega);have hc:∀j,(x1.setCells w.heap.size 0 C.toList).cell? ⟨b,j,none⟩=x1.cell? ⟨b,j,none⟩:=fun j=>World.cell?_of_block (w:=x1) ac (a:=⟨b,j,none⟩);have hf:∀j,(x1.setCells w.heap.size 0 C.toList).frozen? ⟨b,j,none⟩=x1.frozen? ⟨b,j,none⟩:=fun j=>World.frozen?_of_block (w:=x1) ac (a:=⟨b,j,none⟩);exact⟨(hc 0).trans c0,(hc 1).trans c1,(hc 2).trans c2,(hf 0).trans g0,(hf 1).trans g1,(hf 2).trans g2,by rw[hz];exact hb⟩
theorem Rdr.place(h:Rdr w b s p)(c:p<=8*s.size):kQ b w=p:=by
 have a:=(h.at c).2.1;unfold kQ;rw[a];simp[intOf]
theorem aw.book(h:aw b w w')(c:w.heap[g]?=some (Obj.cells C t))(e:g≠b):w'.heap[g]?=some (Obj.cells C t):=by
 have d:g<w.heap.size:=by
  rcases a08 g w.heap.size with a|a
  . exact a
  . rw[Array.getElem?_eq_none a]at c;cases c
 rw[h.2 g d e];exact c
theorem sG{base:Nat}{y:Int}(a:l.length=n)(h:x.ownsRow base 3 1 v (n+k) (l.map (Value.int .i64)++List.replicate k (.int .i64 y))):ay x base v (l++List.replicate k y):=by
 show World.ownsRow _ _ _ _ _ (l++List.replicate k y).length _;rw[a0m,a0z,a,a06,List.map_replicate];exact h
theorem Rdr.block(h:Rdr x b s p)(e:x'.heap[b]?=x.heap[b]?)(f:x.heap.size<=x'.heap.size):Rdr x' b s p:=by
 obtain⟨c0,c1,c2,g0,g1,g2,hb⟩:=h;have c:∀j,x'.cell? ⟨b,j,none⟩=x.cell? ⟨b,j,none⟩:=fun j=>World.cell?_of_block (w:=x) e (a:=⟨b,j,none⟩);have d:∀j,x'.frozen? ⟨b,j,none⟩=x.frozen? ⟨b,j,none⟩:=fun j=>World.frozen?_of_block (w:=x) e (a:=⟨b,j,none⟩);exact⟨(c 0).trans c0,(c 1).trans c1,(c 2).trans c2,(d 0).trans g0,(d 1).trans g1,(d 2).trans g2,by omega⟩
theorem yB{xs:List Value}(g:aw b w x)(l:x.ownsRow (w.heap.size+1) t 1 v n xs)(i:x.grownBy x' v.ownBlock)(hb:b<w.heap.size) :
  aw b w x'/\∀j,j<=w.heap.size->j<x.heap.size->x'.heap[j]?=x.heap[j]?:=by
 have d:∀j,j<=w.heap.size->some j≠v.ownBlock:=fun j c e=>by
  have:=(a0D l j e.symm).1;omega
 have m:=g.1.size;have f:=i.block b (by omega) (d b (by omega));refine⟨⟨g.1.grown i (by omega) (fun k h=>by have:=(a0D l k h).1;omega),fun j c h=>(i.block j (by omega) (d j (by omega))).trans (g.2 j c h),fun j c=>⟨(World.cell?_of_block (w:=x) f (a:=⟨b,j,none⟩)).trans (g.3 j c).1,(World.frozen?_of_block (w:=x) f (a:=⟨b,j,none⟩)).trans (g.3 j c).2⟩⟩,fun j c h=>i.block j h (d j c)⟩
def LnP(w:World)(b:Nat)(s:ByteArray)(d:Option (List Int×Nat))(e:Ending)(w':World):Prop:=
 aw b w w'/\match d with
  | none=>e=jE
  | some (l,q)=>(∃v,e = .returned v/\ay w' w.heap.size v l)/\Rdr w' b s q
def LnI(b many:Nat)(s:ByteArray)(B:List Int)(C:Array Value)(d:Option (List Int×Nat))(w:World)(v:Value)(wr:World):Prop:=
 ∃(q:Nat) (A:List Int),ay wr (w.heap.size+1) v A/\A.length<=600/\aw b w wr/\Rdr wr b s q/\q<=8*s.size/\wr.heap[w.heap.size]?=some (Obj.cells C 278)/\w.heap.size<wr.heap.size/\lnG (ai s) (8*s.size) B many q A=d
def LnS(b:Nat)(s:ByteArray)(C:Array Value)(w x:World)(v:Value)(A:List Int)(q:Nat):Prop:=
 ay x (w.heap.size+1) v A/\aw b w x/\Rdr x b s q/\q<=8*s.size/\x.heap[w.heap.size]?=some (Obj.cells C 278)/\w.heap.size<x.heap.size
theorem LnS.keep(h:LnS b s C w x v A q)(hb:b<w.heap.size)(a:aw b x x')(f:Rdr x' b s q')(hq:q'<=8*s.size):LnS b s C w x' v A q':=by
 obtain⟨c,h2,g,i,d,e⟩:=h;exact⟨c.keep1' a (by omega),h2.trans a,f,hq,a.book d (by omega),a0j e a.1.size⟩
theorem LnS.below(h:LnS b s C w x v A q)(hb:b<w.heap.size)(a:Below x.heap.size x x'):LnS b s C w x' v A q:=by
 have h2:=h.2.2.1.lt;exact h.keep hb ((aw.refl b x).later a h2) (h.2.2.1.kept (a.mono h2)) h.2.2.2.1
theorem LnS.grown{A':List Int}(h:LnS b s C w x v A q)(hb:b<w.heap.size)(a:x.grownBy x' v.ownBlock)(i:ay x' (w.heap.size+1) v' A'):LnS b s C w x' v' A' q:=by
 obtain⟨e,h2,c,f,g,d⟩:=h;obtain⟨g1,g2⟩:=yB h2 e a hb;exact⟨i,g1,c.block (g2 b (by omega) c.lt) a.size,f,(g2 _ (a0a _) d).trans g,a0j d a.size⟩
theorem LnS.done{many:Nat}{B:List Int}{d:Option (List Int×Nat)}(h:LnS b s C w x v A q)(a:A.length<=600)(hd:lnG (ai s) (8*s.size) B many q A=d):LnI b many s B C d w v x:=
 ⟨q,A,h.1,a,h.2.1,h.2.2.1,h.2.2.2.1,h.2.2.2.2.1,h.2.2.2.2.2,hd⟩
theorem xh(b p many base:Nat)(s:ByteArray)(B:List Int)(C:Array Value)(w:World)(h:Rdr w b s p)(hp:p<=8*s.size)(hs:s.size<=2000000)(hm:many<=400)(hB:bU w base B C)(ba:b<base)(b1:av B=true) :
  Calls prog 258 #[.pointer (some ⟨b,0,none⟩),.int .i64 (many:Nat),.agg C] w (LnP w b s (lnG (ai s) (8*s.size) B many p [])):=by
 have bs:prog.follows .mixedOrders=true:=by kernel_rfl
 obtain⟨i0,hi,a3,a4,a5⟩:=a0w Tryz.infoInt;obtain⟨d,hd⟩:∃d,lnG (ai s) (8*s.size) B many p []=d:=⟨_,rfl⟩;rw[hd];have a2:=h.lt;have cy:(many:Int)<=400:=by omega
 have HI:Hid (LnI b many s B C d w (.slice none 0 0) (w.alloc (.cells C 278))):=
  ⟨p,[],ay.nil _ _,by simp,(aw.refl b w).alloc a2 _,h.alloc _,hp,alloc_at _ _,by simp,hd⟩
 have N:=af (a0b hs (a0b ba (a0b b1 a2)));have HZ:=af hB.size;have b2:Hid (∀W,aw b w W->bU W base B C):=fun W hW=>hB.keep1 hW ba;clear h hp hs hm hB ba b1 hd a2;go_enter func258,ntmps258;go_wp2_with fail
 go_loopw [7,8] (fun v _ wr=>LnI b many s B C d w v wr) (fun _ _ wr=>8*s.size-kQ b wr)
 case atStart=>exact ae HI
 case round=>
  obtain⟨q,A,ho,hA,a1,hr,hq,a0,be,hd⟩:=hrel;clear HI;obtain⟨n,hn⟩:∃n,A.length=n:=⟨_,rfl⟩;obtain⟨a,cap,rfl⟩:=ho.formN hn;have a2:=(ae N).2.2.2;have co:w.heap.size≠b:=by omega
  have ac:=af (hr.place hq);have HX:=af (a0b ho (a0b a1 (a0b hr (a0b hq (a0b a0 be)))));have c7:(n:Int)<=600:=by omega
  have F:=af hn;by_cases c8:n<many
  .
   have b0:(n:Int)<(many:Int):=by omega
   rw[te hq (by omega)]at hd;have T:=af (Ci b q base C B s wr (ae b2 _ a1) (ae N).2.1 (ae N).2.2.1 (ae N).1 hr hq);have a6:=af (qV a0);clear ho a1 hr hq a0 be hn hA;unfold SyP at T;rcases h1:dec B (ai s) (8*s.size) q with _|⟨k,Q⟩
   .
    rw[h1]at T hd;have Hn:Hid (d=none):=by show d=none;rw[←hd];rfl
    clear h1 hd;go_wp2_with (refine bJ rfl 278 (.tmp 5) rfl w.heap.size 0 rfl C _ (ae a6) a3I rfl (by rw[ae HZ];exact Tryz.infoLenB) ?_);refine(ae T).mono ?_;rintro e x1 ⟨k1,rfl⟩;refine⟨rfl,?_⟩;unfold LnP;rw[ae Hn];exact⟨(ae HX).2.1.trans k1,rfl⟩
   rw[h1]at T hd;have a9:=fo h1;simp only[a0f]at hd;clear h1;have l:=af hd;clear hd;go_wp2_with (refine bJ rfl 278 (.tmp 5) rfl w.heap.size 0 rfl C _ (ae a6) a3I rfl (by rw[ae HZ];exact Tryz.infoLenB) ?_);refine(ae T).mono ?_;rintro e x1 ⟨k1,rfl,r1⟩;have o1:=(ae HX).1.keep1' k1 (by omega);have HY:=af (a0b o1 (a0b ((ae HX).2.1.trans k1) (a0b r1 (a0b a9.1 (a0b (k1.book (ae HX).2.2.2.2.1 co) (a0j (ae HX).2.2.2.2.2 k1.1.size))))));have Hq:=af a9.2.1;have I:Hid (LnS b s C w x1 (.slice a n cap) A Q):=ae HY;clear k1 r1 o1 HX a6 T a9 HY;have aa:=af ((ae I).1.own (ae F));have bb:w.heap.size+1<=x1.heap.size:=(ae I).2.2.2.2.2;have c6:n<400:=by omega
   by_cases o:k=16
   .
    have a7:(k == 16)=true:=by rw[o];rfl
    by_cases bc:n=0
    .
     have ch:decide (0<n)=false:=a0i (by omega);have Hn:Hid (d=none):=by show d=none;rw[←ae l,o];unfold dt;rw[a0e rfl,a0e (by rw[ae F];exact bc)];rfl
     clear bc o;go_wp2_with fail;refine(eU _).mono ?_;rintro e x2 ⟨rfl,D⟩;rw[D];clear D x2;refine⟨rfl,?_⟩;unfold LnP;rw[ae Hn];exact⟨(ae I).2.1,rfl⟩
    .
     have ch:decide (0<n)=true:=a0y (by omega);obtain⟨g,rfl⟩:=(ae I).1.somes (by rw[ae F];omega);have H:Hid (dt (ai s) (8*s.size) A k Q=(rdN (ai s) (8*s.size) Q 2).bind fun x=>some (A++List.replicate (3+x.1) (A.getD (n-1) 0),x.2)):=by
      show _=_;rw[o];unfold dt;rw[a0e rfl,a0d (by rw[ae F];exact bc),ae F]
     rw[ae H]at l;obtain⟨m,hm⟩:∃m,n-1=m:=⟨_,rfl⟩;have c5:(n:Int)-1=(m:Int):=by omega
     have bz:m+1=n:=by omega
     rw[hm]at l;have al:=af bz;have b4:Hid (IntKind.i64.wrap (m:Int)=(m:Int)):=by show _=_;rw[a0T];omega
     clear H o hm bz;go_wp2_with fail;refine(dc _).mono ?_;rintro e x2 ⟨rfl,D⟩;rw[D];clear D x2;go_wp2_with fail;have E:=af (bS b Q 2 s x1.drew (show Rdr x1.drew b s Q from(ae I).2.2.1) (ae N).1 (by omega));have cr:n<=cap:=by
      have:=(ae aa);rcases this.2 with⟨e,_⟩|⟨g',cp,cu,e,_,_,h1,_⟩
      . cases e
      . simp only[a0L]at e;omega
     refine wp_region_held_drew (S:=fun _=>True) bs trivial (fun hS=>?_);refine ag 0 (.slice (some ⟨g,0,none⟩) n cap) rfl (by kernel_rfl) (fun _ _ _ h=>h) rfl (fun W P=>by go_simp) hS ?_;refine ag 1 (.slice (some ⟨g,0,none⟩) n cap) rfl (by kernel_rfl) (fun _ _ _ h=>h) rfl (fun W P=>by go_simp) hS ?_;refine ag 2 (.slice (some ⟨g,0,none⟩) n cap) rfl (by kernel_rfl) (fun _ _ _ h=>h) rfl (fun W P=>by go_simp) hS ?_;refine ag 3 (.int .i64 (n:Nat)) rfl (by kernel_rfl) (fun _ _ _ h=>h) rfl (fun W P=>by go_simp) hS ?_;refine ag 4 (.int .i64 (m:Nat)) rfl (by kernel_rfl) (fun _ _ _ h=>h) rfl (fun W P=>by go_simp;exact ae b4) hS ?_;refine ag 6 (.pointer (some ⟨b,0,none⟩)) rfl (by kernel_rfl) (fun _ _ _ h=>h) rfl (fun W P=>by go_simp) hS ?_;refine ag 5 (.slice (some ⟨g,m,none⟩) 1 (cap-m)) rfl (by kernel_rfl) (fun _ _ _ h=>h) rfl (fun W P=>by go_simp;rw[a0e (by have:=ae al;omega),a0d (by have:=ae al;omega),show n-m=1 by have:=ae al;omega]) hS ?_;refine ah 7 (by kernel_rfl) rfl fun K V=>?_;go_simp;go_at_call 218;unfold iG at E;rcases h2:rdN (ai s) (8*s.size) Q 2 with _|⟨y,q2⟩
     .
      rw[h2]at E l;have Hn:Hid (d=none):=by show d=none;rw[←ae l];rfl
      refine(ae E).mono ?_;rintro e x2 ⟨R,rfl⟩;refine⟨rfl,?_⟩;unfold LnP;rw[ae Hn];exact⟨(ae I).2.1.trans ((aw.refl b x1).drew.trans R),rfl⟩
     rw[h2]at E l;simp only[a0f]at l;have J:=af (bm h2);have hy:y<4:=by have:=(bm h2).2.2.2;omega
     clear h2;refine(ae E).mono ?_;rintro e x2 ⟨R,rfl,r2⟩;refine Shut.out V _ _ trivial (fun M=>?_);clear V K;have r:=af ((ae I).keep (ae N).2.2.2 ((aw.refl b x1).drew.trans R) r2 (ae J).1);clear R r2 E;obtain⟨c,hc⟩:∃c,3+y=c:=⟨_,rfl⟩;have b5:Hid (IntKind.i64.wrap (3+(y:Int))=(c:Int)):=by show _=_;rw[a0T];omega
     have cv:(c:Int)<=7:=by omega
     have cg:1<=c:=by omega
     rw[hc]at l;clear hc;refine wpAnyH_take (i:=8) (v:=.int .i64 (c:Nat)) rfl (by kernel_rfl) (by kernel_rfl) (by kernel_rfl) (fun _ _ _ h=>h) (a0s ⟨by rfl,fun W P=>by go_simp;exact ae b5⟩) M ?_;refine ah 9 (by kernel_rfl) rfl fun K V=>?_;go_simp;go_at_call 85;have Y:x2.cell? ⟨g,m,none⟩=some (.int .i64 (A.getD m 0)):=((ae r).1.at (ae F) (by have:=ae al;omega)).1;refine(nH (A.getD m 0) c (cap-m) g m x2 Y cg (by omega)).mono ?_;rintro e x3 ⟨rfl,o3,b3⟩;have ad:=af ((ae r).below (ae N).2.2.2 b3);have bq:=af o3;generalize A.getD m 0=z at *
     refine Shut.out V _ _ trivial (fun t=>?_);clear V K o3 b3 Y;refine ah 10 (by kernel_rfl) rfl fun K V=>?_;refine aK rfl _ _ 65 rfl (w.heap.size+1) 3 i0 (.int .i64 0) 1 8 a0I hi a3 a4 a5 rfl (by decide) (.slice (some ⟨g,0,none⟩) n cap) n _ rfl ((ae ad).1.own (ae F)) ⟨x2.heap.size,0,none⟩ c c ((List.replicate c z).map (Value.int .i64)) rfl (by simp) (a2g ((ae bq).own (n:=c) (by simp)) rfl) (by intro u hu;simp only[a2L]at hu;obtain⟨_,_,rfl⟩:=hu;rfl) (by unfold maxLen;omega) (by omega) (by have:=(ae ad).2.2.2.2.2;omega) (fun v' x4 j f Z=>?_);clear Z;rw[List.map_replicate]at j;have ao:=(ae ad).grown (ae N).2.2.2 f (sG (ae F) j);have HI:=af (ao.done (B:=B) (many:=many) (d:=d) (by rw[a0m,ae F,a0z];omega) (ae l));have O:=af (ao.2.2.1.place ao.2.2.2.1);clear j f ao;refine Shut.out V _ _ trivial (fun b8=>?_);clear V K;refine ah 11 (by kernel_rfl) rfl fun K V=>?_;go_simp;refine Shut.out V _ _ trivial (fun cc=>?_);clear V K;refine wpAnyH_done (by kernel_rfl) ?_ _;clear I r ad bq aa hS M t b8 cc;go_wp2_with fail;go_roundw
     case rel=>exact ae HI
     case measure=>rw[ae O,ae ac];have:=ae Hq;have:=ae J;omega
   .
    by_cases L:k=17
    .
     have bk:(k == 17)=true:=by rw[L];rfl
     have a7:(k == 16)=false:=by rw[a0V];exact o
     have E:=af (bS b Q 3 s x1 (ae I).2.2.1 (ae N).1 (by omega));have H:Hid (dt (ai s) (8*s.size) A k Q=(rdN (ai s) (8*s.size) Q 3).bind fun x=>some (A++List.replicate (3+x.1) 0,x.2)):=by
      show _=_;rw[L];unfold dt;rw[a0d (by decide),a0e rfl]
     rw[ae H]at l;clear o L H;unfold iG at E;rcases h2:rdN (ai s) (8*s.size) Q 3 with _|⟨y,q2⟩
     .
      rw[h2]at E l;have Hn:Hid (d=none):=by show d=none;rw[←ae l];rfl
      clear h2 l;go_wp2_with fail;refine(ae E).mono ?_;rintro e x2 ⟨R,rfl⟩;refine⟨rfl,?_⟩;unfold LnP;rw[ae Hn];exact⟨(ae I).2.1.trans R,rfl⟩
     .
      rw[h2]at E l;simp only[a0f]at l;have G:=bm h2;have hy:y<8:=by have:=G.2.2.2;omega
      have J:=af (a0b G.1 G.2.1);clear h2 G;go_wp2_with fail;refine(ae E).mono ?_;rintro e x2 ⟨R,rfl,r2⟩;have r:=af ((ae I).keep (ae N).2.2.2 R r2 (ae J).1);have ab:=af ((ae r).1.own (ae F));have X:w.heap.size+1<=x2.heap.size:=(ae r).2.2.2.2.2;have bd:Hid (n+(3+y)<=maxLen/\(n+(3+y))*8<=140737488355328):=by show _/\_;unfold maxLen;omega
      clear R r2 E I aa bb;go_wp2_with (at_builtin;refine ik _ rfl _ _ 65 3 rfl (w.heap.size+1) 3 i0 (.int .i64 0) 8 .i64 .i64 a0I a2C hi a3 a4 a5 rfl rfl (.slice a n cap) n _ rfl (ae ab) (3+y) (by simp[Act.eval]) (by omega) (ae bd).1 (ae bd).2 X ?_;intro v' x3 j f);have t:=(ae r).grown (ae N).2.2.2 f (sG (ae F) j);have HI:=af (t.done (B:=B) (many:=many) (d:=d) (by rw[a0m,ae F,a0z];omega) (ae l));have O:=af (t.2.2.1.place t.2.2.2.1);clear j f t;go_wp2_with fail;go_roundw
      case rel=>exact ae HI
      case measure=>rw[ae O,ae ac];have:=ae Hq;have:=ae J;omega
    .
     by_cases U:k=18
     .
      have bk:(k == 18)=true:=by rw[U];rfl
      have a7:(k == 16)=false:=by rw[a0V];exact o
      have b6:(k == 17)=false:=by rw[a0V];exact L
      have E:=af (bS b Q 7 s x1 (ae I).2.2.1 (ae N).1 (by omega));have H:Hid (dt (ai s) (8*s.size) A k Q=(rdN (ai s) (8*s.size) Q 7).bind fun x=>some (A++List.replicate (11+x.1) 0,x.2)):=by
       show _=_;rw[U];unfold dt;rw[a0d (by decide),a0d (by decide),a0e rfl]
      rw[ae H]at l;clear o L U H;unfold iG at E;rcases h2:rdN (ai s) (8*s.size) Q 7 with _|⟨y,q2⟩
      .
       rw[h2]at E l;have Hn:Hid (d=none):=by show d=none;rw[←ae l];rfl
       clear h2 l;go_wp2_with fail;refine(ae E).mono ?_;rintro e x2 ⟨R,rfl⟩;refine⟨rfl,?_⟩;unfold LnP;rw[ae Hn];exact⟨(ae I).2.1.trans R,rfl⟩
      .
       rw[h2]at E l;simp only[a0f]at l;have G:=bm h2;have hy:y<128:=by have:=G.2.2.2;omega
       have J:=af (a0b G.1 G.2.1);clear h2 G;go_wp2_with fail;refine(ae E).mono ?_;rintro e x2 ⟨R,rfl,r2⟩;have r:=af ((ae I).keep (ae N).2.2.2 R r2 (ae J).1);have ab:=af ((ae r).1.own (ae F));have X:w.heap.size+1<=x2.heap.size:=(ae r).2.2.2.2.2;have bd:Hid (n+(11+y)<=maxLen/\(n+(11+y))*8<=140737488355328):=by show _/\_;unfold maxLen;omega
       clear R r2 E I aa bb;go_wp2_with (at_builtin;refine ik _ rfl _ _ 65 3 rfl (w.heap.size+1) 3 i0 (.int .i64 0) 8 .i64 .i64 a0I a2C hi a3 a4 a5 rfl rfl (.slice a n cap) n _ rfl (ae ab) (11+y) (by simp[Act.eval]) (by omega) (ae bd).1 (ae bd).2 X ?_;intro v' x3 j f);have t:=(ae r).grown (ae N).2.2.2 f (sG (ae F) j);have HI:=af (t.done (B:=B) (many:=many) (d:=d) (by rw[a0m,ae F,a0z];omega) (ae l));have O:=af (t.2.2.1.place t.2.2.2.1);clear j f t;go_wp2_with fail;go_roundw
       case rel=>exact ae HI
       case measure=>rw[ae O,ae ac];have:=ae Hq;have:=ae J;omega
     .
      have a7:(k == 16)=false:=by rw[a0V];exact o
      have b6:(k == 17)=false:=by rw[a0V];exact L
      have cs:(k == 18)=false:=by rw[a0V];exact U
      have bd:Hid (n+1<=maxLen/\(n+1)*8<=140737488355328):=by show _/\_;unfold maxLen;omega
      have HE:Hid (lnG (ai s) (8*s.size) B many Q (A++[k])=d):=by
       show _=d;rw[←ae l];unfold dt;rw[a0d o,a0d L,a0d U];rfl
      clear o L U l;go_wp2_with (at_builtin;refine a0x _ rfl _ _ 65 rfl (w.heap.size+1) 3 i0 (.int .i64 0) 1 8 a0I hi a3 a4 a5 rfl (by decide) (.slice a n cap) _ _ rfl (a0n (ae aa) _) ⟨x1.heap.size,0,none⟩ 1 1 [.int .i64 k] rfl rfl (bh _ _ rfl _ _) (fE _) (ae bd).1 (ae bd).2 (an bb _) ?_;intro v' x2 j f Z;clear Z);have M:=((ae I).below (ae N).2.2.2 ((a0c _ _).alloc (a0a _) (.cells #[.int .i64 k] 3))).grown (ae N).2.2.2 f (db (ae F) j);have HI:=af (M.done (B:=B) (many:=many) (d:=d) (by rw[a0m,ae F,a1z];omega) (ae HE));have O:=af (M.2.2.1.place M.2.2.2.1);have HQ:=af M.2.2.2.1;clear j f M;go_wp2_with fail;go_roundw
      case rel=>exact ae HI
      case measure=>rw[ae O,ae ac];have:=ae Hq;have:=ae HQ;omega
  .
   have b0:¬ (n:Int)<(many:Int):=by omega
   rw[tf hq (by omega)]at hd;have l:=af hd;clear ho a1 hr hq a0 be hn hA hd;by_cases hE:n=many
   .
    have b7:((n:Int) == (many:Int))=true:=by rw[hE];exact beq_self_eq_true _
    rw[a0e (by rw[ae F];exact hE)]at l;clear hE;go_wp2_with fail;refine(dc _).mono ?_;rintro e x2 ⟨rfl,D⟩;rw[D];clear D x2;go_wp2;go_ret;unfold LnP;rw[←ae l];exact⟨(ae HX).2.1,⟨_,rfl,(ae HX).1.mono (a1e _)⟩,(ae HX).2.2.1⟩
   .
    have b7:((n:Int) == (many:Int))=false:=by rw[a0V];omega
    rw[a0d (by rw[ae F];exact hE)]at l;clear hE;go_wp2_with fail;refine(eU _).mono ?_;rintro e x2 ⟨rfl,D⟩;rw[D];clear D x2;refine⟨rfl,?_⟩;unfold LnP;rw[←ae l];exact⟨(ae HX).2.1,rfl⟩
theorem DX:av (bT 288)=true:=by kernel_rfl
theorem yk:av (List.replicate 32 (5:Int))=true:=by kernel_rfl
theorem ce.take{base:Nat}(h:ce w base a l)(n:Nat):ce w base a (l.take n):=by
 have j:(l.take n).length<=l.length:=by rw[a0v];omega
 refine⟨fun b=>?_,fun b=>h.2 (by omega)⟩;obtain⟨g,o,e,d,c⟩:=h.1 (by omega);refine⟨g,o,e,d,fun i f=>?_⟩;rw[c i (by omega)];rw[a0v]at f;simp[List.getD,show i<n by omega]
theorem ce.drop{base:Nat}(h:ce w base (some ⟨g,o,none⟩) l)(n:Nat):ce w base (some ⟨g,o+n,none⟩) (l.drop n):=by
 have f:(l.drop n).length=l.length-n:=a0X ..;refine⟨fun a=>?_,fun a x e=>?_⟩
 . obtain⟨g',o',e,c,b⟩:=h.1 (by omega);simp only[a0k,a0F,a03]at e;obtain⟨rfl,rfl⟩:=e;refine⟨g,o+n,rfl,c,fun i d=>?_⟩;have:=b (n+i) (by omega);rw[←a1U]at this;rw[this];simp[List.getD,List.getElem?_drop]
 . have:=h.2 (by omega) _ rfl;simp only[a0k]at e;subst e;exact this
theorem ug(b p:Nat)(s:ByteArray)(T:List UInt8)(w:World)(h:Sou w b s p T)(o:T.length<=300)(r:p<=8*s.size)(t:s.size<=2000000) :
  Calls prog 216 #[.pointer (some ⟨b,0,none⟩)] w (cP w b s (BH (ai s) (8*s.size) p T)):=by
 obtain⟨d,hd⟩:∃d,BH (ai s) (8*s.size) p T=d:=⟨_,rfl⟩;rw[hd];have a:=af (a0b h (a0b o (a0b r t)));have k:=af hd;have j:=h.lt;clear h o r t hd;go_enter func216,ntmps216;go_wp2_with fail;refine(sk w).mono ?_;rintro e x1 ⟨⟨C,rfl,n⟩,i⟩;have g:=af (tW b p (w.heap.size+1) s (bT 288) (List.replicate 32 5) C T x1 ((ae a).1.later i) (ae a).2.1 (ae a).2.2.1 (ae a).2.2.2 n (by omega) DX yk);have l:=af (show gp (ai s) (8*s.size) (bT 288) (List.replicate 32 5) p T=d from ae k);rw[ae l]at g;have f:=af ((KU.refl b w).later i j);clear n i a k l;go_wp2_with fail;refine(ae g).mono ?_;intro e x2 h2;unfold cP at h2;rcases d with _|⟨T',q⟩
 . obtain⟨c,rfl⟩:=h2;refine⟨rfl,?_⟩;unfold cP;exact⟨(ae f).trans c,rfl⟩
 .
  obtain⟨c,rfl,s2⟩:=h2;have m:=af (a0b ((ae f).trans c) s2);clear c s2 g f;go_wp2
  go_end0
  unfold cP;exact⟨(ae m).1,rfl,(ae m).2⟩
theorem bU.second{base:Nat}{a b:Array Value}(h:fh w base L D (a++b))(d:a.size=19):bU w base D b:=by
 obtain⟨E1,E2,e,f1,f2⟩:=h;have c:=congrArg Array.toList e;simp only[a1n]at c;have h2:=a1h c (by simp[d,f1.size]);rw[Array.ext' h2.2];exact f2
theorem ub{P:Program}{ops:Array Oper}{S:World->Prop}{op:Oper}{a:Act}(d:Region.wanted op (yielded ops a.tmps)=true)(t:TypeId)(parts:Array (Nat×Operand))(c:op.op = .build t parts)(cells:Array Value)
  (b:P.built t (parts.map fun(i,x)=>(i,a.eval x)).toList=some cells):YieldsIf P ops S op (.agg cells) a:=
 a0s ⟨d,fun w _=>by unfold execOp;simp only[c,a26,run_build w t _ cells b,Result.andThen_ok,Sem.run_pure]⟩
theorem rq{P:Program}{ops:Array Oper}{S:World->Prop}{op:Oper}{a:Act}(d:Region.wanted op (yielded ops a.tmps)=true)(t:TypeId)(x y:Operand)(c:op.op = .build t #[(0,x),(1,y)])(cells:Array Value)(u v:Value)(f:a.eval x=u)(g:a.eval y=v)
  (b:P.built t [(0,u),(1,v)]=some cells):YieldsIf P ops S op (.agg cells) a:=by
 have e:((#[(0,x),(1,y)]:Array (Nat×Operand)).map fun(i,x)=>(i,a.eval x)).toList=[(0,u),(1,v)]:=by simp[f,g]
 exact ub d t _ c cells (by rw[e];exact b)
theorem zM(b p:Nat)(s:ByteArray)(T:List UInt8)(w:World)(h:Sou w b s p T)(hT:T.length<=300)(hs:s.size<=2000000)(hO:dO w)(hb:2<b) :
  Calls prog 217 #[.pointer (some ⟨b,0,none⟩)] w (cP w b s (tt (ai s) (8*s.size) p T)):=by
 have bc:prog.follows .mixedOrders=true:=by kernel_rfl
 obtain⟨d,hd⟩:∃d,tt (ai s) (8*s.size) p T=d:=⟨_,rfl⟩;rw[hd];have f:=af hd;unfold tt at f;have y:=af (a0b hs (a0b hT (a0b hO hb)));have j:=af (bS b p 5 s w h.1 hs (by omega));have HS:=af h;clear h hT hs hO hb hd;go_enter func217,ntmps217;unfold iG at j;rcases h1:rdN (ai s) (8*s.size) p 5 with _|⟨a,q1⟩
 .
  rw[h1]at j f;have t:Hid (d=none):=by show d=none;rw[←ae f];rfl
  clear h1 f;go_wp2_with fail;refine(ae j).mono ?_;rintro e x1 ⟨k1,rfl⟩;refine⟨rfl,?_⟩;unfold cP;rw[ae t];exact⟨k1.ku,rfl⟩
 rw[h1]at j f;simp only[a0f]at f;have ha:a<32:=by have:=(bm h1).2.2.2;omega
 clear h1;go_wp2_with fail;refine(ae j).mono ?_;rintro e x1 ⟨k1,rfl,r1⟩;have M:=af k1;have a3:=af r1;clear k1 r1 j;have j:=af (bS b q1 5 s x1 (ae a3) (ae y).1 (by omega));unfold iG at j;rcases h2:rdN (ai s) (8*s.size) q1 5 with _|⟨c,q2⟩
 .
  rw[h2]at j f;have t:Hid (d=none):=by show d=none;rw[←ae f];rfl
  clear h2 f;go_wp2_with fail;refine(ae j).mono ?_;rintro e x2 ⟨k2,rfl⟩;refine⟨rfl,?_⟩;unfold cP;rw[ae t];exact⟨((ae M).trans k2).ku,rfl⟩
 rw[h2]at j f;simp only[a0f]at f;have hc:c<32:=by have:=(bm h2).2.2.2;omega
 clear h2;go_wp2_with fail;refine(ae j).mono ?_;rintro e x2 ⟨k2,rfl,r2⟩;have u:=af ((ae M).trans k2);have a4:=af r2;clear k2 r2 j M a3;have j:=af (bS b q2 4 s x2 (ae a4) (ae y).1 (by omega));unfold iG at j;by_cases hA:a+257<=286/\c+1<=30
 .
  rw[a0e hA]at f;have z:(a:Int)+256+1<=286:=by omega
  have bz:(c:Int)+1<=30:=by omega
  clear hA;obtain⟨nL,hnL⟩:∃n,a+257=n:=⟨_,rfl⟩;obtain⟨nD,hnD⟩:∃n,c+1=n:=⟨_,rfl⟩;have e1:(a:Int)+256+1=(nL:Int):=by omega
  have e2:(c:Int)+1=(nD:Int):=by omega
  have l1:nL<=286/\257<=nL:=by omega
  have l2:nD<=30/\1<=nD:=by omega
  have l1I:(nL:Int)<=286:=by omega
  have l2I:(nD:Int)<=30:=by omega
  rw[hnL,hnD]at f;clear hnL hnD;go_wp2_with fail;refine(dc _).mono ?_;rintro e x3 ⟨rfl,k⟩;rw[k];clear k x3;clear e1 e2 z bz ha hc;rcases h3:rdN (ai s) (8*s.size) q2 4 with _|⟨m,q3⟩
  .
   rw[h3]at j f;have t:Hid (d=none):=by show d=none;rw[←ae f];rfl
   clear h3 f;go_wp2_with fail;refine(ae j).mono ?_;rintro e x3 ⟨k3,rfl⟩;refine⟨rfl,?_⟩;unfold cP;rw[ae t];exact⟨((ae u).trans k3).ku,rfl⟩
  rw[h3]at j f;simp only[a0f]at f;have b5:m<16:=by have:=(bm h3).2.2.2;omega
  have a6:=af (bm h3).1;obtain⟨mm,hmm⟩:∃n,m+4=n:=⟨_,rfl⟩;have e3:(m:Int)+4=(mm:Int):=by omega
  have ad:mm<=19:=by omega
  rw[hmm]at f;clear h3 hmm;go_wp2_with fail;refine(ae j).mono ?_;rintro e x3 ⟨k3,rfl,r3⟩;have x:=af ((ae u).trans k3);have Q:=af r3;clear k3 r3 j u a4;have HB:=af (xg b q3 mm s x3 (ae Q) (ae a6) (ae y).1 ad ((ae y).2.2.1.below (ae x).1 (ae y).2.2.2) (ae y).2.2.2);unfold LbP at HB;rcases h4:iT (ai s) (8*s.size) mm q3 with _|⟨B,q4⟩
  .
   rw[h4]at HB f;have t:Hid (d=none):=by show d=none;rw[←ae f];rfl
   clear h4 f;go_wp2_with fail;refine(ae HB).mono ?_;rintro e x4 ⟨k4,rfl⟩;refine⟨rfl,?_⟩;unfold cP;rw[ae t];exact⟨((ae x).trans k4).ku,rfl⟩
  rw[h4]at HB f;simp only[a0f]at f;have Y:=af (pK h4 (ae a6));clear h4;go_wp2_with fail;refine(ae HB).mono ?_;rintro e x4 ⟨k4,⟨C,rfl,a7⟩,r4⟩;have N:=af ((ae x).trans k4);have R:=af r4;have al:=af a7;have ba:b<x3.heap.size:=(ae Q).lt;clear k4 r4 HB x Q a7 e3;have P:=af (xh b q4 (nL+nD) x3.heap.size s B C x4 (ae R) (ae Y).1 (ae y).1 (by omega) (ae al) ba (ae Y).2.2.1);have e5:((nL+nD:Nat):Int)=(nL:Int)+(nD:Int):=by omega
  rw[e5]at P;clear e5;unfold LnP at P;rcases h5:lnG (ai s) (8*s.size) B (nL+nD) q4 []with _|⟨A,q5⟩
  .
   rw[h5]at P f;have t:Hid (d=none):=by show d=none;rw[←ae f];rfl
   clear h5 f;go_wp2_with fail;refine(ae P).mono ?_;rintro e x5 ⟨k5,rfl⟩;refine⟨rfl,?_⟩;unfold cP;rw[ae t];exact⟨((ae N).trans k5).ku,rfl⟩
  rw[h5]at P f;simp only[a0f]at f;have a5:=af (Cn h5 (ae Y).1);clear h5;go_wp2_with fail;refine(ae P).mono ?_;rintro e x5 ⟨k5,⟨v,rfl,hv⟩,r5⟩;have D:A.length=nL+nD:=(ae a5).2.2;obtain⟨ga,cap,rfl⟩:=hv.formN D;obtain⟨g,rfl⟩:=hv.somes (by omega);have b4:nL+nD<=cap:=by
   rcases (hv.own D).2 with⟨e,_⟩|⟨g',b3,b8,e,_,_,h1,_⟩
   . cases e
   . simp only[a0L]at e;omega
  have O:=af ((ae N).trans k5);have U:=af ((ae HS).keep1 (ae O) r5);have bk:=af (cf D (hv.own D));have bb:b<x4.heap.size:=(ae R).lt;have J:x4.heap.size<=x5.heap.size:=k5.1.size;clear k5 r5 P hv N R al;go_wp2_with fail;refine wp_region_held_drew (S:=fun _=>True) bc trivial (fun I=>?_);refine ag 0 (.pointer (some ⟨b,0,none⟩)) rfl (by kernel_rfl) (fun _ _ _ h=>h) rfl (fun W r=>by go_simp) I ?_;refine ag 1 (.slice (some ⟨g,0,none⟩) (nL+nD) cap) rfl (by kernel_rfl) (fun _ _ _ h=>h) rfl (fun W r=>by go_simp) I ?_;refine ag 2 (.int .i64 (nL:Nat)) rfl (by kernel_rfl) (fun _ _ _ h=>h) rfl (fun W r=>by go_simp) I ?_;refine ag 5 (.slice (some ⟨g,0,none⟩) (nL+nD) cap) rfl (by kernel_rfl) (fun _ _ _ h=>h) rfl (fun W r=>by go_simp) I ?_;refine ag 6 (.int .i64 (nL:Nat)) rfl (by kernel_rfl) (fun _ _ _ h=>h) rfl (fun W r=>by go_simp) I ?_;refine ag 3 (.slice (some ⟨g,0,none⟩) nL cap) rfl (by kernel_rfl) (fun _ _ _ h=>h) rfl (fun W r=>by go_simp;intro h;omega) I ?_;refine ag 7 (.slice (some ⟨g,nL,none⟩) nD (cap-nL)) rfl (by kernel_rfl) (fun _ _ _ h=>h) rfl (fun W r=>by go_simp;rw[a0e (by omega),a0d (by omega)]) I ?_;have a0:Hid (ce x5.drew x4.heap.size (some ⟨g,0,none⟩) A):=(ae bk).later (a0c _ _).drew;have tl:(A.take nL).length=nL:=by rw[a0v];omega
  have dl:(A.drop nL).length=nD:=by rw[a0X];omega
  have l:=af (F4 (some ⟨g,0,none⟩) cap nL x4.heap.size (A.take nL) x5.drew tl ((ae a0).take nL) J (by omega));refine ah 4 (by kernel_rfl) rfl fun K H=>?_;go_simp;go_at_call 260;unfold rV at f;cases ab:av (A.take nL)
  . rw[ab]at l f;simp only[a0Z,a00]at l f;refine(ae l).mono ?_;rintro e x6 ⟨Z,rfl⟩;refine⟨rfl,?_⟩;unfold cP;rw[←ae f];exact⟨((ae O).drew.ku).later Z (show b<x5.drew.heap.size from(ae U).lt),rfl⟩
  rw[ab]at l f;simp only[a0R]at l f;refine(ae l).mono ?_;rintro e x6 ⟨Z,F,rfl,E⟩;have a1:=af (((ae O).drew.ku).later Z (show b<x5.drew.heap.size from(ae U).lt));have V:=af (Sou.later (w:=x5.drew) (show Sou x5.drew b s q5 T from ae U) Z);have L:=af E;have b2:x4.heap.size<=x6.heap.size:=a0G J Z.size;have bq:=af ((ae a0).later Z);refine Shut.out H _ _ trivial (fun b0=>?_);clear H K Z E l;have o:=af (BE (some ⟨g,nL,none⟩) (cap-nL) nD x4.heap.size (A.drop nL) x6 dl (by have:=(ae bq).drop nL;rwa[a0J]at this) b2 (by omega));refine ah 8 (by kernel_rfl) rfl fun K H=>?_;go_simp;go_at_call 261;cases ac:av (A.drop nL)
  . rw[ac]at o f;simp only[a0Z,a00]at o f;refine(ae o).mono ?_;rintro e x7 ⟨b7,rfl⟩;refine⟨rfl,?_⟩;unfold cP;rw[←ae f];exact⟨(ae a1).later b7 (ae V).lt,rfl⟩
  rw[ac]at o f;simp only[a0R]at o f;refine(ae o).mono ?_;rintro e x7 ⟨b7,G,rfl,aa⟩;have a2:=af ((ae a1).later b7 (ae V).lt);have bs:=af ((ae V).later b7);have ao:Hid (fh x7 x4.heap.size (A.take nL) (A.drop nL) (F++G)):=⟨F,G,rfl,(ae L).later b7,aa⟩;have bd:=(ae L).later b7;refine Shut.out H _ _ trivial (fun a9=>?_);clear H K b7 aa o;have be:Hid (prog.built 227 [(0,.agg F),(1,.agg G)]=some (F++G)):=by
   exact qo bd (bU.second (ae ao) (ae L).size)
  have X:=af (tW b q5 x4.heap.size s (A.take nL) (A.drop nL) (F++G) T x7 (ae bs) (ae y).2.1 (ae a5).1 (ae y).1 (ae ao) bb ab ac);rw[ae f]at X;refine wpAnyH_take (i:=9) (v:=.agg (F++G)) rfl (by kernel_rfl) (by kernel_rfl) (by kernel_rfl) (fun _ _ _ h=>h) (rq (by rfl) 227 (.tmp 35) (.tmp 39) rfl (F++G) (.agg F) (.agg G) rfl rfl (ae be)) a9 ?_;refine ah 10 (by kernel_rfl) rfl fun K H=>?_;go_simp;go_at_call 257;refine(ae X).mono ?_;intro e x8 h8;unfold cP at h8;rcases d with _|⟨T',q⟩
  . obtain⟨k8,rfl⟩:=h8;refine⟨rfl,?_⟩;unfold cP;exact⟨(ae a2).trans k8,rfl⟩
  .
   obtain⟨k8,rfl,s8⟩:=h8;have HY:=af (a0b ((ae a2).trans k8) s8);refine Shut.out H _ _ trivial (fun b1=>?_);clear H K k8 s8 X;refine wpAnyH_done (by kernel_rfl) ?_ _;clear I b0 a9 b1;go_wp2
   go_end0
   unfold cP;exact⟨(ae HY).1,rfl,(ae HY).2⟩
 .
  rw[a0d hA]at f;have t:Hid (d=none):=by show d=none;rw[←ae f]
  by_cases z:a+257<=286
  .
   have E:(a:Int)+256+1<=286:=by omega
   have aa:decide ((c:Int)+1<=30)=false:=a0i (by omega);clear hA z;go_wp2_with fail;refine(eU _).mono ?_;rintro e x3 ⟨rfl,k⟩;rw[k];clear k x3;refine⟨rfl,?_⟩;unfold cP;rw[ae t];exact⟨(ae u).ku,rfl⟩
  . have E:decide ((a:Int)+256+1<=286)=false:=a0i (by omega);clear hA z;go_wp2_with fail;refine(eU _).mono ?_;rintro e x3 ⟨rfl,k⟩;rw[k];clear k x3;refine⟨rfl,?_⟩;unfold cP;rw[ae t];exact⟨(ae u).ku,rfl⟩
def MR(sz p:Nat)(T:List UInt8)(d:Option (List UInt8×Nat))(T':List UInt8)(q:Nat)(f:Bool):Prop:=
 (f=false->q<=sz/\p<=q/\T'.length<=300+q)/\(T.length<=300->f=false->T'.length<=300->d=some (T',q))/\(T.length<=300->(f=true∨300<T'.length)->d=none)/\(300<T.length->f=true∨300<T'.length)
def MP(w:World)(b p:Nat)(s:ByteArray)(T:List UInt8)(d:Option (List UInt8×Nat))(e:Ending)(w':World):Prop:=
 KU b w w'/\∃v T' q f,e = .returned v/\aN w' (b+1) v T'/\RF w' b s q f/\MR (8*s.size) p T d T' q f
theorem MR.bad(h:T.length<=300->d=none):MR sz p T d T' q true:=
 ⟨nofun,fun _=>nofun,fun a _=>h a,fun _=>.inl rfl⟩
theorem jT(R:List UInt8)(y:Nat)(b:y<256):dP R ((y:Nat),0,0)=if R.length+1<=300 then some (R++[cV (y:Nat)])else none:=by
 have a:isB (((y:Nat):Int),0,0)=true:=by unfold isB inB;simp;omega
 unfold dP gm;rw[a];simp
theorem Bs: ∀(n p:Nat) (T T':List UInt8) (q:Nat),di V sz n p T=some (T',q)->T'.length=T.length+n/\(0<n->T'.length<=300):=by
 intro n;induction n with
 | zero=>
  intro p T T' q h;simp only[di,a0k,a0O]at h;obtain⟨rfl,rfl⟩:=h;exact⟨rfl,fun h=>by omega⟩
 | succ n ih=>
  intro p T T' q h;simp only[di]at h;rcases a:rdN V sz p 8 with _|⟨x,r⟩
  . rw[a]at h;cases h
  .
   rw[a]at h;simp only[a0f]at h;have c:=bm a;rw[jT T x (by have:=c.2.2.2;omega)]at h
   split at h
   .
    simp only[a0f]at h;obtain⟨a1,a2⟩:=ih _ _ _ _ h;rw[a0m,a1z]at a1;refine⟨by omega,fun _=>?_⟩;rcases a2x n with b|b
    . omega
    . exact a2 b
   . cases h
theorem xL(h:300<n):di V sz n p T=none:=by
 rcases a:di V sz n p T with _|⟨T',q⟩
 . rfl
 . have:=Bs _ _ _ _ _ a;have:=this.2 (by omega);omega
def StI(sz V x q0:Nat)(T:List UInt8)(d:Option (List UInt8×Nat))(k q:Nat)(R:List UInt8)(f:Bool):Prop:=
 k<=x/\T.length<=R.length/\R.length<=T.length+k/\(f=false->q<=sz/\q0<=q/\R.length<=300+q/\(R.length<=300->di V sz (x-k) q R=d)/\(300<R.length->T.length<=300->d=none))/\(f=true->T.length<=300->d=none)
theorem StI.next{x i:Nat}(h:StI sz V x i T d k q R false)(f:k<x):StI sz V x i T d (k+1) (q+8) (R++[cV ((V/2 ^ q%2 ^ 8:Nat):Int)]) (false || decide (sz<q+8)):=by
 obtain⟨l,h2,m,j,_⟩:=h;obtain⟨a1,a2,a3,a4,a5⟩:=j rfl;have e:x-k=(x-(k+1))+1:=by omega
 have g:V/2 ^ q%2 ^ 8<256:=a0W _ (by decide);rw[a2m];have n:(R++[cV ((V/2 ^ q%2 ^ 8:Nat):Int)]).length=R.length+1:=by simp
 by_cases c:sz<q+8
 .
  rw[a0y c];refine⟨f,by omega,by omega,nofun,fun _ b=>?_⟩;by_cases a:R.length<=300
  . rw[←a4 a,e];simp only[di];rw[eA (by omega)];rfl
  . exact a5 (by omega) b
 .
  rw[a0i c];refine⟨f,by omega,by omega,fun _=>⟨by omega,by omega,by omega,fun h=>?_,fun h b=>?_⟩,nofun⟩
  . have:=a4 (by omega);rw[e]at this;simp only[di]at this;rw[ck (by omega)]at this;simp only[a0f]at this;rw[jT R _ g,a0e (by omega)]at this;exact this
  .
   by_cases a:R.length<=300
   . have:=a4 a;rw[e]at this;simp only[di]at this;rw[ck (by omega)]at this;simp only[a0f]at this;rw[jT R _ g,a0d (by omega)]at this;exact this.symm
   . exact a5 (by omega) b
theorem StI.done{x b:Nat}(h:StI sz V x b T d k q R f)(n:p<=b)(i:f=true∨¬ k<x):MR sz p T d R q f:=by
 obtain⟨l,h2,m,c,e⟩:=h;cases f
 .
  obtain⟨a1,a2,a3,a4,a5⟩:=c rfl;have j:x-k=0:=by
   rcases i with h|h
   . cases h
   . omega
  refine⟨fun _=>⟨a1,by omega,a3⟩,fun a _ g=>?_,fun a h=>?_,fun a=>.inr (by omega)⟩
  . rw[←a4 g,j];rfl
  .
   rcases h with h|h
   . cases h
   . exact a5 h a
 . exact MR.bad (e rfl)
def MS(w:World)(b:Nat)(s:ByteArray)(x:World)(v:Value)(R:List UInt8)(q:Nat)(f:Bool):Prop:=KU b w x/\aN x (b+1) v R/\RF x b s q f
theorem MS.keep1{f':Bool}(h:MS w b s x v R q f)(a:aw b x x')(c:RF x' b s q' f'):MS w b s x' v R q' f':=⟨h.1.trans a.ku,h.2.1.keep1 a (a0p _),c⟩
theorem MS.setBad(h:MS w b s x v R q f):MS w b s (x.setCell ⟨b,2,none⟩ (.bool true)) v R q true:=h.keep1 (bj _ _ _ _) h.2.2.setBad
theorem MS.lt(h:MS w b s x v R q f):b<x.heap.size:=h.2.2.lt
theorem MS.belU{a:List UInt8}(h:MS w b s x v R q f)(hb:cw (b+1) x x')(e:aN x' (b+1) v' a):MS w b s x' v' a q f:=
 ⟨h.1.trans ⟨hb.1.mono (a1e _),fun j c _ d=>hb.2 j c d⟩,e,h.2.2.kept hb.1⟩
theorem MS.end(h:MS w b s x v R q f)(a:MR (8*s.size) p T d R q f):MP w b p s T d (.returned v) x:=⟨h.1,v,R,q,f,rfl,h.2.1,h.2.2,a⟩
theorem lS(h:fk V p=none):dk V sz p T=none:=by unfold dk;rw[h];rfl
theorem qN(h:fk V p=some q):dk V sz p T=(rdN V sz q 16).bind fun a=>(rdN V sz a.2 16).bind fun c=>if c.1=65535-a.1 then di V sz a.1 c.2 T else none:=by unfold dk;rw[h];rfl
theorem lT(h:fk V p=some q)(b:sz<q+32):dk V sz p T=none:=by
 rw[qN h];by_cases a:q+16<=sz
 . rw[ck a];simp only[a0f];rw[eA (by omega)];rfl
 . rw[eA a];rfl
theorem nO(h:fk V p=some q)(a:q+32<=sz):dk V sz p T=if V/2 ^ (q+16)%2 ^ 16=65535-V/2 ^ q%2 ^ 16 then di V sz (V/2 ^ q%2 ^ 16) (q+32) T else none:=by
 rw[qN h,ck (by omega)];simp only[a0f];rw[ck (by omega)];simp only[a0f]
theorem GJ(h:fk V p=some q)(b:¬ V/2 ^ (q+16)%2 ^ 16=65535-V/2 ^ q%2 ^ 16):dk V sz p T=none:=by
 by_cases a:q+32<=sz
 . rw[nO h a,a0d b]
 . exact lT h (by omega)
theorem Dh(h:fk V p=some q)(b:300<V/2 ^ q%2 ^ 16):dk V sz p T=none:=by
 by_cases a:q+32<=sz
 .
  rw[nO h a]
  split
  . exact xL b
  . rfl
 . exact lT h (by omega)
theorem Di(b p n cap:Nat)(a:Option Addr)(s:ByteArray)(T:List UInt8)(w:World)(hn:T.length=n)(ho:aN w (b+1) (.slice a n cap) T)(hr:Rdr w b s p)(hp:p<=8*s.size)(hs:s.size<=2000)(hT:n<=300+p) :
  Calls prog 210 #[.pointer (some ⟨b,0,none⟩),.slice a n cap] w (MP w b p s T (dk (ai s) (8*s.size) p T)):=by
 obtain⟨i0,hi,ba,bb,bc⟩:=a0w Tryz.infoU8;obtain⟨d,hd⟩:∃d,dk (ai s) (8*s.size) p T=d:=⟨_,rfl⟩;rw[hd];have U:RF w b s p false:=by have:=dC hr;rwa[a0i (by omega)]at this
 have F:Hid (MS w b s w (.slice a n cap) T p false):=⟨KU.refl _ _,ho,U⟩;have V:=af (pf b p false s w U hp (by omega));have E:=af (a0b hs (a0b hn (a0b hT hp)));have O:=af hd;clear hn ho hr hs hT hd U;have a1:p+(8-p%8)%8<=8*s.size:=by omega
 have H:Hid (fk (ai s) p=if ai s/2 ^ p%2 ^ ((8-p%8)%8)=0 then some (p+(8-p%8)%8)else none):=rfl;generalize a9:p+(8-p%8)%8=q1 at *
 have P:Hid (p<=q1):=by show p<=q1;omega
 clear a9 hp;have a3:=af a1;clear a1;go_enter func210,ntmps210;by_cases z:ai s/2 ^ p%2 ^ ((8-p%8)%8)=0
 .
  rw[a0y z]at V;rw[a0e z]at H;clear z;go_wp2_with fail;refine(ae V).mono ?_;rintro e x1 ⟨rfl,W,k1⟩;have t:=af ((ae F).keep1 k1 W);clear k1 W V F;have r:=af (hJ b q1 16 false s x1 (ae t).2.2 (fun _=>ae a3) (by have:=ae E;omega) (by omega));rw[a2m]at r;go_wp2_with fail;refine(ae r).mono ?_;rintro e x2 ⟨rfl,r2,k2⟩;have u:=af ((ae t).keep1 k2 r2);clear k2 r2 r t;have r:=af (hJ b (q1+16) 16 _ s x2 (ae u).2.2 (fun h=>by have:=of_decide_eq_false h;omega) (by have:=ae E;omega) (by omega));obtain⟨X,hX⟩:∃X,ai s/2 ^ q1%2 ^ 16=X:=⟨_,rfl⟩;obtain⟨Y,hY⟩:∃Y,ai s/2 ^ (q1+16)%2 ^ 16=Y:=⟨_,rfl⟩;have a4:(X:Int)<=65535:=by
   have:ai s/2 ^ q1%2 ^ 16<65536:=a0W _ (by decide);omega
  have a5:(Y:Int)<=65535:=by
   have:ai s/2 ^ (q1+16)%2 ^ 16<65536:=a0W _ (by decide);omega
  have a6:∃f,(decide (8*s.size<q1+16) || decide (8*s.size<q1+16+16))=f/\f=decide (8*s.size<q1+32):=⟨_,rfl,by rw[a2e];simp;omega⟩;obtain⟨f,al,ao⟩:=a6;rw[al,hY]at r;rw[hX];have Hf:=af ao;have C:=af (a0b hX hY);clear al ao hX hY;go_wp2_with fail;refine(ae r).mono ?_;rintro e x3 ⟨rfl,r3,k3⟩;have j:=af ((ae u).keep1 k3 r3);clear k3 r3 r u;obtain⟨c3,f3⟩:=(ae j).2.2.bad;by_cases o:Y=65535-X
  .
   by_cases x:300<X
   .
    have gI:(300:Int)<(X:Int):=by omega
    have g1:(Y:Int)=65535-(X:Int):=by omega
    have c:Hid (T.length<=300->d=none):=fun _=>by rw[←ae O];exact(Dh (ae H) (by rw[(ae C).1];exact x))
    clear o x;have l:=af (ae j).setBad;go_wp2_with fail;generalize x3.setCell ⟨b,2,none⟩ (.bool true)=XW at *
    have g:=af (ae l);have c4:=(ae g).2.2.bad.1
    go_loopw [1,6] (fun v i wr=>v = .slice a n cap/\i = .int .i64 0/\wr=XW) (fun _ _ _=>0)
    case atStart=>exact⟨rfl,rfl,rfl⟩
    case round=>
     obtain⟨rfl,rfl,rfl⟩:=hrel;by_cases h0:0<X
     . go_wp2;go_ret;exact(ae g).end (MR.bad (ae c))
     . go_wp2;go_ret;exact(ae g).end (MR.bad (ae c))
   .
    have gI:¬ (300:Int)<(X:Int):=by omega
    have g1:(Y:Int)=65535-(X:Int):=by omega
    cases f
    .
     have Q:q1+32<=8*s.size:=by have:=ae Hf;have:=of_decide_eq_false this.symm;omega
     have Z:Hid (StI (8*s.size) (ai s) X (q1+32) T d 0 (q1+32) T false):=by
      refine⟨a0g _,a0a _,a0a _,fun _=>⟨Q,a0a _,by have:=ae E;have:=ae P;omega,fun _=>?_,fun h1 h2=>by omega⟩,nofun⟩;rw[←ae O,nO (ae H) Q,(ae C).1,(ae C).2,a0e o];rfl
     have Hn:=af (ae E).2.1;have aa:Hid (n<=300+p/\p<=8*s.size/\s.size<=2000):=⟨(ae E).2.2.1,(ae E).2.2.2,(ae E).1⟩;have L:Hid (MS w b s x3 (.slice a n cap) T (q1+32) false):=ae j;clear o x Q j;go_wp2_with fail
     go_loopw [1,6] (fun v i wr=>∃(k q:Nat) (R:List UInt8) (f:Bool),i = .int .i64 k/\MS w b s wr v R q f/\StI (8*s.size) (ai s) X (q1+32) T d k q R f) (fun _ i _=>X-(intOf i).toNat)
     case atStart=>exact⟨0,q1+32,T,false,rfl,ae L,ae Z⟩
     case round=>
      obtain⟨k,q,R,f,rfl,I,J⟩:=hrel;clear L Z c3 f3;have be:=J.1;obtain⟨m,hm⟩:∃m,R.length=m:=⟨_,rfl⟩;obtain⟨va,vc,rfl⟩:=I.2.1.formN hm;obtain⟨c2,f2⟩:=I.2.2.bad;have A:=af I;have B:=af J;have bk:m<=20000:=by have:=J.2.2.1;have:=ae aa;have:=ae Hn;omega
      have Hm:=af hm;clear I J hm;by_cases hk:k<X
      .
       have a7:(k:Int)<(X:Int):=by omega
       cases f
       .
        have r:=af (hJ b q 8 false s wr (ae A).2.2 (fun _=>((ae B).2.2.2.1 rfl).1) (by have:=ae aa;omega) (by omega));have M:=af ((ae B).next hk);obtain⟨y,hy⟩:∃y,ai s/2 ^ q%2 ^ 8=y:=⟨_,rfl⟩;have bq:y<256:=by rw[←hy];exact a0W _ (by decide)
        have hu:IntKind.u8.wrap (y:Int)=(y:Int):=vT (by omega) (by omega);rw[hy]at r M;clear hy;go_wp2_with fail;refine(ae r).mono ?_;rintro e x5 ⟨rfl,r5,k5⟩;have G:=af ((ae A).keep1 k5 r5);have S:=af ((ae G).2.1.own (ae Hm));have ac:b+1<=x5.heap.size:=(ae G).lt;have bd:Hid (m+1<=maxLen/\(m+1)*1<=140737488355328):=by show _/\_;unfold maxLen;omega
        clear r5 k5 r A c2 f2 B;go_wp2_with (at_builtin;refine a0x _ rfl _ _ 22 rfl (b+1) 5 i0 (.int .u8 0) 1 1 a0M hi ba bb bc rfl (by decide) (.slice va m vc) _ _ rfl (a0n (ae S) _) ⟨x5.heap.size,0,none⟩ 1 1 [.int .u8 (y:Int)] rfl rfl (bh _ _ rfl _ _) (one_byte _) (ae bd).1 (ae bd).2 (an ac _) ?_;intro v' x6 N D a0;clear a0);have ad:cw (b+1) x5 x6:=gQ D (ae S) (a0a _) ac (cw.refl _ _);have ab:aN x6 (b+1) v' (R++[cV (y:Int)]):=bX (ae Hm) (by rw[dU (by omega) (by omega)];exact N);have a2:=af ((ae G).belU ad ab);clear N D ad ab G S;go_wp2_with fail;go_roundw
        case rel=>exact⟨k+1,q+8,_,_,by go_num,ae a2,ae M⟩
        case measure=>simp[intOf];omega
       . go_wp2;go_ret;exact(ae A).end ((ae B).done (by have:=ae P;omega) (.inl rfl))
      .
       have a7:¬ (k:Int)<(X:Int):=by omega
       go_wp2;go_ret;exact(ae A).end ((ae B).done (by have:=ae P;omega) (.inr hk))
    .
     have c:Hid (T.length<=300->d=none):=fun _=>by rw[←ae O];exact lT (ae H) (a2X (ae Hf).symm)
     clear o x;go_wp2_with fail;have g:=j;generalize x3=XW at *
     have c4:=(ae g).2.2.bad.1
     go_loopw [1,6] (fun v i wr=>v = .slice a n cap/\i = .int .i64 0/\wr=XW) (fun _ _ _=>0)
     case atStart=>exact⟨rfl,rfl,rfl⟩
     case round=>
      obtain⟨rfl,rfl,rfl⟩:=hrel;by_cases h0:0<X
      . go_wp2;go_ret;exact(ae g).end (MR.bad (ae c))
      . go_wp2;go_ret;exact(ae g).end (MR.bad (ae c))
  .
   have g1:¬ (Y:Int)=65535-(X:Int):=by omega
   have c:Hid (T.length<=300->d=none):=fun _=>by rw[←ae O];exact(GJ (ae H) (by rw[(ae C).1,(ae C).2];exact o))
   clear o;have l:=af (ae j).setBad;go_wp2_with fail;generalize x3.setCell ⟨b,2,none⟩ (.bool true)=XW at *
   have g:=af (ae l);have c4:=(ae g).2.2.bad.1
   go_loopw [1,6] (fun v i wr=>v = .slice a n cap/\i = .int .i64 0/\wr=XW) (fun _ _ _=>0)
   case atStart=>exact⟨rfl,rfl,rfl⟩
   case round=>
    obtain⟨rfl,rfl,rfl⟩:=hrel;by_cases h0:0<X
    . go_wp2;go_ret;exact(ae g).end (MR.bad (ae c))
    . go_wp2;go_ret;exact(ae g).end (MR.bad (ae c))
 .
  rw[a0i z]at V;rw[a0d z]at H;clear z;go_wp2_with fail;refine(ae V).mono ?_;rintro e x1 ⟨rfl,W,k1⟩;obtain⟨c1,f1⟩:=W.bad;have K:=af ((ae F).keep1 k1 W).setBad;clear k1 W V F;go_wp2_with fail;have t:=af (ae K);generalize x1.setCell ⟨b,2,none⟩ (.bool true)=x1b at *
  clear K c1 f1;have r:=af (hJ b q1 16 true s x1b (ae t).2.2 nofun (by have:=ae E;omega) (by omega));rw[a3g]at r;refine(ae r).mono ?_;rintro e x2 ⟨rfl,r2,k2⟩;have u:=af ((ae t).keep1 k2 r2);clear k2 r2 r t;have r:=af (hJ b (q1+16) 16 true s x2 (ae u).2.2 nofun (by have:=ae E;omega) (by omega));rw[a3g]at r;obtain⟨X,hX⟩:∃X,ai s/2 ^ q1%2 ^ 16=X:=⟨_,rfl⟩;obtain⟨Y,hY⟩:∃Y,ai s/2 ^ (q1+16)%2 ^ 16=Y:=⟨_,rfl⟩;have a4:(X:Int)<=65535:=by
   have:ai s/2 ^ q1%2 ^ 16<65536:=a0W _ (by decide);omega
  have a5:(Y:Int)<=65535:=by
   have:ai s/2 ^ (q1+16)%2 ^ 16<65536:=a0W _ (by decide);omega
  rw[hY]at r;rw[hX];clear hX hY;go_wp2_with fail;refine(ae r).mono ?_;rintro e x3 ⟨rfl,r3,k3⟩;have j:=af ((ae u).keep1 k3 r3);clear k3 r3 r u;obtain⟨c3,f3⟩:=(ae j).2.2.bad;by_cases o:Y=65535-X
  .
   by_cases x:300<X
   .
    have gI:(300:Int)<(X:Int):=by omega
    have g1:(Y:Int)=65535-(X:Int):=by omega
    have c:Hid (T.length<=300->d=none):=fun _=>by rw[←ae O];exact lS (ae H)
    clear o x;have l:=af (ae j).setBad;go_wp2_with fail;generalize x3.setCell ⟨b,2,none⟩ (.bool true)=XW at *
    have g:=af (ae l);have c4:=(ae g).2.2.bad.1
    go_loopw [1,6] (fun v i wr=>v = .slice a n cap/\i = .int .i64 0/\wr=XW) (fun _ _ _=>0)
    case atStart=>exact⟨rfl,rfl,rfl⟩
    case round=>
     obtain⟨rfl,rfl,rfl⟩:=hrel;by_cases h0:0<X
     . go_wp2;go_ret;exact(ae g).end (MR.bad (ae c))
     . go_wp2;go_ret;exact(ae g).end (MR.bad (ae c))
   .
    have gI:¬ (300:Int)<(X:Int):=by omega
    have g1:(Y:Int)=65535-(X:Int):=by omega
    have c:Hid (T.length<=300->d=none):=fun _=>by rw[←ae O];exact lS (ae H)
    clear o x;go_wp2_with fail;have g:=j;generalize x3=XW at *
    have c4:=(ae g).2.2.bad.1
    go_loopw [1,6] (fun v i wr=>v = .slice a n cap/\i = .int .i64 0/\wr=XW) (fun _ _ _=>0)
    case atStart=>exact⟨rfl,rfl,rfl⟩
    case round=>
     obtain⟨rfl,rfl,rfl⟩:=hrel;by_cases h0:0<X
     . go_wp2;go_ret;exact(ae g).end (MR.bad (ae c))
     . go_wp2;go_ret;exact(ae g).end (MR.bad (ae c))
  .
   have g1:¬ (Y:Int)=65535-(X:Int):=by omega
   have c:Hid (T.length<=300->d=none):=fun _=>by rw[←ae O];exact lS (ae H)
   clear o;have l:=af (ae j).setBad;go_wp2_with fail;generalize x3.setCell ⟨b,2,none⟩ (.bool true)=XW at *
   have g:=af (ae l);have c4:=(ae g).2.2.bad.1
   go_loopw [1,6] (fun v i wr=>v = .slice a n cap/\i = .int .i64 0/\wr=XW) (fun _ _ _=>0)
   case atStart=>exact⟨rfl,rfl,rfl⟩
   case round=>
    obtain⟨rfl,rfl,rfl⟩:=hrel;by_cases h0:0<X
    . go_wp2;go_ret;exact(ae g).end (MR.bad (ae c))
    . go_wp2;go_ret;exact(ae g).end (MR.bad (ae c))
def agG(V sz:Nat)(D:List Int)(k p:Nat)(T:List UInt8):Option (List UInt8×Nat):=(ft V sz D k p).bind fun t=>(gm T t.1).bind fun x=>some (x,t.2)
def AgP(w:World)(b:Nat)(s:ByteArray)(d:Option (List UInt8×Nat))(e:Ending)(w':World):Prop:=
 KU b w w'/\∃v T' q f,e = .returned v/\aN w' (b+1) v T'/\RF w' b s q f/\d=if f=true then none else some (T',q)
theorem EO(b C n cap k nD a1 bd:Nat)(a ad acd:Option Addr)(s:ByteArray)(T:List UInt8)(D:List Int)(w:World)(hn:T.length=n)(ho:aN w (b+1) (.slice a n cap) T)(hr:Rdr w b s C)(hp:C<=8*s.size)(hs:s.size<=2000)(hT:n<=300)(hk:k<=700)
  (hD:D.length=nD) (cg:av D=true) (cp:∀W,aw b w W->bu W ad D) (ch:∀W,aw b w W->bu W acd (bi D 15).2) :
  Calls prog 252 #[.pointer (some ⟨b,0,none⟩),.slice a n cap,.int .i64 ((k:Nat)+257),.slice ad nD a1,.slice acd nD bd] w (AgP w b s (agG (ai s) (8*s.size) D k C T)):=by
 have ba:prog.follows .mixedOrders=true:=by kernel_rfl
 obtain⟨d,hd⟩:∃d,agG (ai s) (8*s.size) D k C T=d:=⟨_,rfl⟩;rw[hd];have HD:=af hd;have co:RF w b s C false:=by have:=dC hr;rwa[a0i (by omega)]at this
 have HO:=af ho;have bc:=af co;have HN:=af (a0b hs (a0b hn hT));have cr:=af hp;have al:=af (a0b hD (a0b cg (a0b cp ch)));have ek:(k:Int)+257-257=(k:Int):=by omega
 have c5:(k:Int)<=700:=by omega
 clear hn ho hr hp hs hT hD cg cp ch hd co;go_enter func252,ntmps252;go_wp2_with fail;refine(iy w).mono ?_;rintro e x0 ⟨rfl,o0,b0⟩;have A:=af ((aw.refl b w).later b0 (ae bc).lt);have l:=af ((ae bc).kept (b0.mono (ae bc).lt));clear o0 b0;by_cases a5:k<28
 .
  have b4:(k:Int)<28:=by omega
  have t:=af a5;obtain⟨E1,hE1⟩:∃E,(stF 3 4 k).1=E:=⟨_,rfl⟩;obtain⟨E2,hE2⟩:∃E,(stF 3 4 k).2=E:=⟨_,rfl⟩;have a3:=tK (L:=3) (G:=4) (k:=k) (by omega) (by omega) (by omega) (by omega);rw[hE1,hE2]at a3;have M:(E1:Int)<=200000:=by omega
  have N:(E2:Int)<=14:=by omega
  have z:Hid (E2<=16):=by show E2<=16;omega
  have P:Hid (((stF 3 4 k).1:Int)=(E1:Int)):=by show _=_;rw[hE1]
  have R:Hid (((stF 3 4 k).2:Int)=(E2:Int)):=by show _=_;rw[hE2]
  obtain⟨X,hX⟩:∃X,ai s/2 ^ C%2 ^ E2=X:=⟨_,rfl⟩;have a9:(X:Int)<=65535:=by
   have h1:ai s/2 ^ C%2 ^ E2<2 ^ E2:=a0W _ (a1t _);have h2:2 ^ E2<=2 ^ 16:=a0K (by omega) (by omega);have h3:(2:Nat) ^ 16=65536:=by decide
   omega
  have HX:=af hX;have a0:Hid (IntKind.i64.wrap ((E1:Int)+(X:Int))=(E1:Int)+(X:Int)):=by show _=_;rw[a0T];omega
  have y:=af (a0b hE1 hE2);clear a3 hE1 hE2 hX;go_wp2_with fail;go_cut[12] (fun v wx=>v = .int .i64 ((E1+X:Nat):Int)/\aw b w wx/\RF wx b s (C+E2) (decide (8*s.size<C+E2)))
  case first=>
   refine wp_region_held_drew (S:=fun _=>True) ba trivial (fun _=>?_);refine wpAnyH_take (i:=2) (v:=.int .i64 (k:Nat)) rfl (by kernel_rfl) (by kernel_rfl) (by kernel_rfl) (fun _ _ _ h=>h) (a0s ⟨by rfl,fun W m=>by go_simp⟩) trivial ?_;refine wpAnyH_take (i:=5) (v:=.pointer (some ⟨b,0,none⟩)) rfl (by kernel_rfl) (by kernel_rfl) (by kernel_rfl) (fun _ _ _ h=>h) (a0s ⟨by rfl,fun W m=>by go_simp⟩) trivial ?_;refine wpAnyH_take (i:=7) (v:=.int .i64 (k:Nat)) rfl (by kernel_rfl) (by kernel_rfl) (by kernel_rfl) (fun _ _ _ h=>h) (a0s ⟨by rfl,fun W m=>by go_simp⟩) trivial ?_;refine ah 0 (by kernel_rfl) rfl fun K g=>?_;go_simp;go_at_call 267;refine(iy _).mono ?_;rintro e y1 ⟨rfl,o1,b1⟩;have u:=af ((ae A).drew.later b1 (show b<x0.drew.heap.size from(ae l).lt));have r:=af (RF.kept (w:=x0.drew) (show RF x0.drew b s C false from ae l) (b1.mono (ae l).lt));have bb:=af (o1.rowN rfl);clear o1 b1;refine Shut.out g _ _ trivial (fun _=>?_);clear g K;refine ah 1 (by kernel_rfl) rfl fun K g=>?_;go_simp;go_at_call 266;refine(iS _ 28 y1 (ae bb)).mono ?_;rintro e y2 ⟨v2,rfl,o2,b2⟩;have J:(jt).length=28:=jS _ _ _;obtain⟨a2,cc,rfl⟩:=o2.formN J;obtain⟨g2,rfl⟩:=o2.somes (by omega);have o:g2<y2.heap.size:=o2.below.2;have ao:Hid (g2≠b):=by show g2≠b;have:=o2.below.1;have:=(ae r).lt;omega
   have c:=(o2.at J (show k<28 from ae t)).1;rw[zf _ (ae t),ae P]at c;have q:=af ((ae u).later b2 (ae r).lt);have f:=af ((ae r).kept (b2.mono (ae r).lt));clear o2 b2 J;refine Shut.out g _ _ trivial (fun _=>?_);clear g K;refine dX (S':=fun W=>W.cell? ⟨g2,k,none⟩=some (.int .i64 (E1:Nat))) (fun _ _=>trivial) _ _ _ _ ?_;refine wpAnyH_take (i:=3) (v:=.pointer (some ⟨g2,k,none⟩)) rfl (by kernel_rfl) (by kernel_rfl) (by kernel_rfl) (fun _ _ _ h=>h) (a0s ⟨by rfl,fun W m=>by go_simp<;>(intro h;omega)⟩) c ?_;refine wpAnyH_take (i:=4) (v:=.int .i64 (E1:Nat)) rfl (by kernel_rfl) (by kernel_rfl) (by kernel_rfl) (fun _ _ _ h=>h) (a0s ⟨by rfl,fun W m=>by go_simp⟩) c ?_;refine ah 6 (by kernel_rfl) rfl fun K g=>?_;go_simp;go_at_call 267;refine(iy _).mono ?_;rintro e y3 ⟨rfl,o3,I⟩;have bk:=(o3.at rfl (show k<28 from ae t)).1;rw[zh _ (ae t),ae R]at bk;have c:=(I.cell (p:=⟨g2,k,none⟩) o).trans c;have V:=af ((ae q).later I (ae f).lt);have Z:=af ((ae f).kept (I.mono (ae f).lt));have O:g2<y3.heap.size:=a0j o I.size;generalize bq:y2.heap.size=g3 at *
   clear o3 I bq;refine Shut.out g _ _ c (fun _=>?_);clear g K;refine wpAnyH_take (i:=8) (v:=.pointer (some ⟨g3,k,none⟩)) rfl (by kernel_rfl) (by kernel_rfl) (by kernel_rfl) (fun _ _ _ h=>h) (a0s ⟨by rfl,fun W m=>by go_simp<;>(intro h;omega)⟩) c ?_;refine ah 9 (by kernel_rfl) rfl fun K g=>?_;go_simp;refine Shut.out g _ _ c (fun _=>?_);clear g K;refine ah 10 (by kernel_rfl) rfl fun K g=>?_;go_simp;go_at_call 209;have HM:=af (hJ b C E2 false s y3 (ae Z) (fun _=>ae cr) (by have:=ae HN;omega) (ae z));rw[a2m,ae HX]at HM;refine(ae HM).mono ?_;rintro e y4 ⟨rfl,r4,k4⟩;have c:y4.cell? ⟨g2,k,none⟩=some (.int .i64 (E1:Nat)):=(World.cell?_of_block (w:=y3) (k4.2 _ O (ae ao)) (a:=⟨g2,k,none⟩)).trans c;have Y:=af ((ae V).trans k4);have B:=af r4;clear r4 k4;refine Shut.out g _ _ c (fun _=>?_);clear g K;refine wpAnyH_take (i:=11) (v:=.int .i64 ((E1+X:Nat):Int)) rfl (by kernel_rfl) (by kernel_rfl) (by kernel_rfl) (fun _ _ _ h=>h) (a0s ⟨by rfl,fun W m=>by go_simp;exact ae a0⟩) c ?_;refine ah 12 (by kernel_rfl) rfl fun K g=>?_;go_simp;refine Shut.out g _ _ c (fun _=>?_);clear g K;refine wpAnyH_done (by kernel_rfl) ?_ _;clear HM;go_wp2_with fail
   go_meet
   case rel=>exact⟨rfl,ae Y,ae B⟩
  case rest=>
   obtain⟨rfl,aa,ab⟩:=hcut;clear a0;have HL:=af (a0b (ae y) (ae HX));have cu:((E1+X:Nat):Int)<=300000:=by omega
   obtain⟨LG,hLG⟩:∃L,E1+X=L:=⟨_,rfl⟩;rw[hLG]at cu ⊢;have b6:=af hLG;by_cases hc:C+E2<=8*s.size
   .
    rw[a0i (by omega)]at ab;have a7:Hid (scG (ai s) (8*s.size) 3 4 28 k C=some (LG,C+E2)):=by
     show _=_;unfold scG;rw[a0e (ae t),(ae y).2,ck hc,(ae y).1];simp only[a0f];rw[ae HX,ae b6]
    have H:=af (qe ad acd a1 bd nD b (C+E2) D s wc (ae al).1 (ae al).2.1 (by have:=ae HN;omega) (nK ab hc) hc (fun W hW=>(ae al).2.2.1 W (aa.trans hW)) (fun W hW=>(ae al).2.2.2 W (aa.trans hW)));have u:=af aa;clear aa ab hLG M N a9 P R z y HX b6 HL;unfold od at H;rcases h2:dec D (ai s) (8*s.size) (C+E2)with _|⟨j,q2⟩
    .
     rw[h2]at H;have Hn:Hid (d=none):=by
      show d=none;rw[←ae HD];unfold agG ft;rw[ae a7];simp only[a0f];rw[h2];rfl
     clear h2;go_wp2_with fail;refine(ae H).mono ?_;rintro e x2 ⟨k2,xx,qq,rfl,r2⟩;have q:=af ((ae u).trans k2);have f:=af r2;obtain⟨c2,f2⟩:=r2.bad;have o:=r2.lt;clear r2 k2 u H;go_wp2;go_ret;refine⟨((ae q).trans (bj _ _ _ _)).ku,_,T,_,true,rfl,((ae HO).keep1 (ae q) (a0p _)).keep1 (bj _ _ _ _) (a0p _),(ae f).setBad,?_⟩;rw[ae Hn];rfl
    .
     rw[h2]at H;have be:=fo h2;obtain⟨jn,hj⟩:=a0r be.2.2.1;subst hj;have cy:(jn:Int)<=300:=by have:=bQ (ae al).2.1;omega
     have H2:=af h2;have b8:=af be.1;clear h2 be;go_wp2_with fail;refine(ae H).mono ?_;rintro e x2 ⟨k2,rfl,r2⟩;have q:=af ((ae u).trans k2);have f:Hid (RF x2 b s q2 false):=by have:=dC r2;rwa[a0i (by have:=ae b8;omega)]at this
     obtain⟨c2,f2⟩:=(ae f).bad;clear r2 k2 u H A l;go_wp2_with fail;refine(iq x2).mono ?_;rintro e x3 ⟨rfl,o3,I⟩;have A:=af ((ae q).later I (ae f).lt);have l:=af ((ae f).kept (I.mono (ae f).lt));clear o3 I q f c2 f2;by_cases a4:jn<30
     .
      have bs:(jn:Int)<30:=by omega
      have t:=af a4;obtain⟨E1,hE1⟩:∃E,(stF 1 2 jn).1=E:=⟨_,rfl⟩;obtain⟨E2,hE2⟩:∃E,(stF 1 2 jn).2=E:=⟨_,rfl⟩;have a3:=tK (L:=1) (G:=2) (k:=jn) (by omega) (by omega) (by omega) (by omega);rw[hE1,hE2]at a3;have M:(E1:Int)<=200000:=by omega
      have N:(E2:Int)<=14:=by omega
      have z:Hid (E2<=16):=by show E2<=16;omega
      have P:Hid (((stF 1 2 jn).1:Int)=(E1:Int)):=by show _=_;rw[hE1]
      have R:Hid (((stF 1 2 jn).2:Int)=(E2:Int)):=by show _=_;rw[hE2]
      obtain⟨X,hX⟩:∃X,ai s/2 ^ q2%2 ^ E2=X:=⟨_,rfl⟩;have a9:(X:Int)<=65535:=by
       have h1:ai s/2 ^ q2%2 ^ E2<2 ^ E2:=a0W _ (a1t _);have h2:2 ^ E2<=2 ^ 16:=a0K (by omega) (by omega);have h3:(2:Nat) ^ 16=65536:=by decide
       omega
      have HX:=af hX;have a0:Hid (IntKind.i64.wrap ((E1:Int)+(X:Int))=(E1:Int)+(X:Int)):=by show _=_;rw[a0T];omega
      have y:=af (a0b hE1 hE2);clear a3 hE1 hE2 hX;go_wp2_with fail;go_cut[13] (fun v wx=>v = .int .i64 ((E1+X:Nat):Int)/\aw b w wx/\RF wx b s (q2+E2) (decide (8*s.size<q2+E2)))
      case first=>
       refine wp_region_held_drew (S:=fun _=>True) ba trivial (fun _=>?_);refine wpAnyH_take (i:=2) (v:=.int .i64 (jn:Nat)) rfl (by kernel_rfl) (by kernel_rfl) (by kernel_rfl) (fun _ _ _ h=>h) (a0s ⟨by rfl,fun W m=>by go_simp⟩) trivial ?_;refine wpAnyH_take (i:=5) (v:=.pointer (some ⟨b,0,none⟩)) rfl (by kernel_rfl) (by kernel_rfl) (by kernel_rfl) (fun _ _ _ h=>h) (a0s ⟨by rfl,fun W m=>by go_simp⟩) trivial ?_;refine wpAnyH_take (i:=7) (v:=.int .i64 (jn:Nat)) rfl (by kernel_rfl) (by kernel_rfl) (by kernel_rfl) (fun _ _ _ h=>h) (a0s ⟨by rfl,fun W m=>by go_simp⟩) trivial ?_;refine ah 0 (by kernel_rfl) rfl fun K g=>?_;go_simp;go_at_call 268;refine(iq _).mono ?_;rintro e y1 ⟨rfl,o1,b1⟩;have u:=af ((ae A).drew.later b1 (show b<x3.drew.heap.size from(ae l).lt));have r:=af (RF.kept (w:=x3.drew) (show RF x3.drew b s q2 false from ae l) (b1.mono (ae l).lt));have bb:=af (o1.rowN rfl);clear o1 b1;refine Shut.out g _ _ trivial (fun _=>?_);clear g K;refine ah 1 (by kernel_rfl) rfl fun K g=>?_;go_simp;go_at_call 266;refine(iR _ 30 y1 (ae bb)).mono ?_;rintro e y2 ⟨v2,rfl,o2,b2⟩;have J:(jm).length=30:=jS _ _ _;obtain⟨a2,cc,rfl⟩:=o2.formN J;obtain⟨g2,rfl⟩:=o2.somes (by omega);have o:g2<y2.heap.size:=o2.below.2;have ao:Hid (g2≠b):=by show g2≠b;have:=o2.below.1;have:=(ae r).lt;omega
       have c:=(o2.at J (show jn<30 from ae t)).1;rw[xw _ (ae t),ae P]at c;have q:=af ((ae u).later b2 (ae r).lt);have f:=af ((ae r).kept (b2.mono (ae r).lt));clear o2 b2 J;refine Shut.out g _ _ trivial (fun _=>?_);clear g K;refine dX (S':=fun W=>W.cell? ⟨g2,jn,none⟩=some (.int .i64 (E1:Nat))) (fun _ _=>trivial) _ _ _ _ ?_;refine wpAnyH_take (i:=3) (v:=.pointer (some ⟨g2,jn,none⟩)) rfl (by kernel_rfl) (by kernel_rfl) (by kernel_rfl) (fun _ _ _ h=>h) (a0s ⟨by rfl,fun W m=>by go_simp<;>(intro h;omega)⟩) c ?_;refine wpAnyH_take (i:=4) (v:=.int .i64 (E1:Nat)) rfl (by kernel_rfl) (by kernel_rfl) (by kernel_rfl) (fun _ _ _ h=>h) (a0s ⟨by rfl,fun W m=>by go_simp⟩) c ?_;refine ah 6 (by kernel_rfl) rfl fun K g=>?_;go_simp;go_at_call 268;refine(iq _).mono ?_;rintro e y3 ⟨rfl,o3,I⟩;have bk:=(o3.at rfl (show jn<30 from ae t)).1;rw[xz _ (ae t),ae R]at bk;have c:=(I.cell (p:=⟨g2,jn,none⟩) o).trans c;have V:=af ((ae q).later I (ae f).lt);have Z:=af ((ae f).kept (I.mono (ae f).lt));have O:g2<y3.heap.size:=a0j o I.size;generalize bq:y2.heap.size=g3 at *
       clear o3 I bq;refine Shut.out g _ _ c (fun _=>?_);clear g K;refine wpAnyH_take (i:=8) (v:=.pointer (some ⟨g3,jn,none⟩)) rfl (by kernel_rfl) (by kernel_rfl) (by kernel_rfl) (fun _ _ _ h=>h) (a0s ⟨by rfl,fun W m=>by go_simp<;>(intro h;omega)⟩) c ?_;refine ah 9 (by kernel_rfl) rfl fun K g=>?_;go_simp;refine Shut.out g _ _ c (fun _=>?_);clear g K;refine ah 10 (by kernel_rfl) rfl fun K g=>?_;go_simp;go_at_call 209;have HM:=af (hJ b q2 E2 false s y3 (ae Z) (fun _=>ae b8) (by have:=ae HN;omega) (ae z));rw[a2m,ae HX]at HM;refine(ae HM).mono ?_;rintro e y4 ⟨rfl,r4,k4⟩;have c:y4.cell? ⟨g2,jn,none⟩=some (.int .i64 (E1:Nat)):=(World.cell?_of_block (w:=y3) (k4.2 _ O (ae ao)) (a:=⟨g2,jn,none⟩)).trans c;have Y:=af ((ae V).trans k4);have B:=af r4;clear r4 k4;refine Shut.out g _ _ c (fun _=>?_);clear g K;refine wpAnyH_take (i:=11) (v:=.int .i64 ((E1+X:Nat):Int)) rfl (by kernel_rfl) (by kernel_rfl) (by kernel_rfl) (fun _ _ _ h=>h) (a0s ⟨by rfl,fun W m=>by go_simp;exact ae a0⟩) c ?_;refine ah 12 (by kernel_rfl) rfl fun K g=>?_;go_simp;refine Shut.out g _ _ c (fun _=>?_);clear g K;refine wpAnyH_done (by kernel_rfl) ?_ _;clear HM;go_wp2_with fail
       go_meet
       case rel=>exact⟨rfl,ae Y,ae B⟩
      case rest=>
       obtain⟨rfl,bz,b5⟩:=hcut;clear a0;have cs:((E1+X:Nat):Int)<=300000:=by omega
       obtain⟨BK,hBK⟩:∃L,E1+X=L:=⟨_,rfl⟩;rw[hBK]at cs ⊢;have a6:Hid (d=if decide (8*s.size<q2+E2)=true then none else(gm T (0,(LG:Int),(BK:Int))).bind fun x=>some (x,q2+E2)):=by
        show d=_;rw[←ae HD];unfold agG ft;rw[ae a7];simp only[a0f];rw[ae H2];simp only[a0f,a0l];unfold scG;rw[a0e (ae t),(ae y).2,(ae y).1];by_cases c:q2+E2<=8*s.size
        . rw[ck c,a0i (by omega)];simp only[a0f,ae HX,hBK];rfl
        . rw[eA c,a0y (by omega)];rfl
       generalize decide (8*s.size<q2+E2)=F at *
       generalize q2+E2=Q at *
       have ac:=af (U.l4Add_any (b+1) n cap a T (0,(LG:Int),(BK:Int)) wc (ae HN).2.1 ((ae HO).keep1 bz (a0p _)) (by have:=ae HN;omega) b5.lt);have V:=af bz;have Z:=af b5;clear bz b5 hBK M N a9 P R z y HX a7 H2;simp only at ac;go_wp2_with fail;refine(ae ac).mono ?_;rintro e x4 ⟨v,T2,rfl,o4,h4,u4⟩;have B:=af ((ae Z).kept u4.1);have Y:Hid (KU b w x4):=(ae V).ku.trans ⟨u4.1.mono (a1e _),fun j hj _ hn=>u4.2 j hj hn⟩;have b7:=af o4;obtain⟨c4,f4⟩:=(ae B).bad;have cv:=(ae B).lt;clear o4 u4 ac V Z;rcases hA:gm T (0,(LG:Int),(BK:Int))with _|T3
       . rw[hA]at a6;simp only[Option.isSome_none];clear hA h4;go_wp2;go_ret;refine⟨(ae Y).trans (bj _ _ _ _).ku,_,T2,_,true,rfl,(ae b7).keep1 (bj _ _ _ _) (a0p _),(ae B).setBad,?_⟩;rw[ae a6];cases F<;>rfl
       . rw[hA]at a6 h4;simp only[Option.isSome_some,true_implies,a0k]at h4 ⊢;clear hA;go_wp2;go_ret;refine⟨ae Y,_,T2,Q,F,rfl,ae b7,ae B,?_⟩;rw[ae a6,h4];rfl
     .
      have bs:¬ (jn:Int)<30:=by omega
      have Hn:Hid (d=none):=by
       show d=none;rw[←ae HD];unfold agG ft;rw[ae a7];simp only[a0f];rw[ae H2];simp only[a0f,a0l];unfold scG;rw[a0d a4];rfl
      obtain⟨c3,f3⟩:=(ae l).bad;have O:=(ae l).lt;clear a4;go_wp2;go_ret;refine⟨((ae A).trans (bj _ _ _ _)).ku,_,T,_,true,rfl,((ae HO).keep1 (ae A) (a0p _)).keep1 (bj _ _ _ _) (a0p _),(ae l).setBad,?_⟩;rw[ae Hn];rfl
   .
    rw[a0y (by omega)]at ab;have Hn:Hid (d=none):=by
     show d=none;rw[←ae HD];unfold agG ft scG;rw[a0e (ae t),(ae y).2,eA hc];rfl
    have u:=af aa;have r:=af ab;clear aa ab hLG M N a9 P R z y HX;go_wp2_with fail;refine(Dm ad acd a1 bd nD b _ s wc (ae r)).mono ?_;rintro e x2 ⟨rfl,r2,k2⟩;have q:=af ((ae u).trans k2);have f:=af r2;obtain⟨c2,f2⟩:=r2.bad;have o:=r2.lt;clear r2 k2 u r;go_wp2;go_ret;refine⟨((ae q).trans (bj _ _ _ _)).ku,_,T,_,true,rfl,((ae HO).keep1 (ae q) (a0p _)).keep1 (bj _ _ _ _) (a0p _),(ae f).setBad,?_⟩;rw[ae Hn];rfl
 .
  have b4:¬ (k:Int)<28:=by omega
  have Hn:Hid (d=none):=by
   show d=none;rw[←ae HD];unfold agG ft scG;rw[a0d a5];rfl
  obtain⟨c2,f2⟩:=(ae l).bad;have o:=(ae l).lt;clear a5;go_wp2;go_ret;refine⟨((ae A).trans (bj _ _ _ _)).ku,_,T,_,true,rfl,((ae HO).keep1 (ae A) (a0p _)).keep1 (bj _ _ _ _) (a0p _),(ae l).setBad,?_⟩;rw[ae Hn];rfl
def py(b sz:Nat)(w:World):Nat:=match w.cell? ⟨b,2,none⟩with
 | some (.bool true)=>0
 | _=>sz+1-kQ b w
theorem RF.far(h:RF w b s p f):py b (8*s.size) w=if f=true then 0 else 8*s.size+1-min p (8*s.size):=by
 unfold py kQ;rw[h.bad.1,h.2.1];cases f
 . simp[intOf]
 . rfl
def TmI(b:Nat)(s:ByteArray)(L D:List Int)(g1 g2 p:Nat)(d:Option (List UInt8×Nat))(w:World)(v:Value)(x:World):Prop:=
 ∃(q:Nat) (R:List UInt8) (f:Bool),MS w b s x v R q f/\ce x (b+1) (some ⟨g1,0,none⟩) (bi L 15).2/\ce x (b+1) (some ⟨g2,0,none⟩) (bi D 15).2/\(f=false->R.length<=400)/\(f=false->q<=8*s.size/\p<=q)/\(f=false->R.length<=300->gp (ai s) (8*s.size) L D q R=d)/\((f=true∨300<R.length)->d=none)
theorem ce.belU{base:Nat}(h:ce w base a l)(b:cw base w w'):ce w' base a l:=h.moved b.1.size (fun g _ c d=>b.2 g c d)
theorem Lz: ((oneG V sz D ((kk:Int)+257) q).bind fun t=>(dP R t.1).bind fun T'=>gp V sz L D t.2 T')=(agG V sz D kk q R).bind fun x=>if x.1.length<=300 then gp V sz L D x.2 x.1 else none:=by
 have e:oneG V sz D ((kk:Int)+257) q=ft V sz D kk q:=by
  unfold oneG;rw[a0d (by omega),show((kk:Int)+257).toNat-257=kk by omega]
 rw[e];unfold agG;rcases ft V sz D kk q with _|⟨t,r⟩
 . rfl
 .
  simp only[a0f];unfold dP;rcases gm R t with _|x
  . rfl
  .
   simp only[a0f]
   split<;>rfl
theorem BV{t:Tk}(h:isK t=true):3<=t.2.1/\t.2.1<=60/\1<=t.2.2/\t.2.2<=250:=by
 unfold isK inB at h;simp only[a0h,a0o]at h;omega
theorem NW(h:agG V sz D kk q R=some (T',q')):T'.length<=R.length+100:=by
 unfold agG at h;rcases a:ft V sz D kk q with _|⟨t,r⟩
 . rw[a]at h;cases h
 rw[a]at h;simp only[a0f]at h;rcases h2:gm R t with _|x
 . rw[h2]at h;cases h
 rw[h2]at h;simp only[a0f,a0k,a0O]at h;obtain⟨rfl,_⟩:=h;unfold gm at h2
 split at h2
 . simp only[a0k]at h2;subst h2;simp
 .
  split at h2
  . rename_i hK;simp only[a0h]at hK;have:=BV hK.1;simp only[a0k]at h2;subst h2;rw[kR];omega
  . cases h2
theorem NG(h:agG V sz D kk q R=some (T',q')):q'<=sz/\q<=q':=by
 unfold agG at h;rcases a:ft V sz D kk q with _|⟨t,r⟩
 . rw[a]at h;cases h
 rw[a]at h;simp only[a0f]at h;rcases h2:gm R t with _|x
 . rw[h2]at h;cases h
 rw[h2]at h;simp only[a0f,a0k,a0O]at h;obtain⟨_,rfl⟩:=h;exact xy a
theorem Au(b p n cap nL A nD z:Nat)(a al ad:Option Addr)(s:ByteArray)(T:List UInt8)(L D:List Int)(w:World)(hn:T.length=n)(ho:aN w (b+1) (.slice a n cap) T)(hr:Rdr w b s p)(hp:p<=8*s.size)(hs:s.size<=2000)(hT:n<=300)
  (hL:L.length=nL) (hD:D.length=nD) (okL:av L=true) (okD:av D=true) (jL:ce w (b+1) al L) (jD:ce w (b+1) ad D) :
  Calls prog 211 #[.pointer (some ⟨b,0,none⟩),.slice a n cap,.slice al nL A,.slice ad nD z] w (MP w b p s T (gp (ai s) (8*s.size) L D p T)):=by
 obtain⟨i0,hi,bz,b0,b3⟩:=a0w Tryz.infoU8;obtain⟨d,hd⟩:∃d,gp (ai s) (8*s.size) L D p T=d:=⟨_,rfl⟩;rw[hd];have a9:=hr.lt;have bk:RF w b s p false:=by have:=dC hr;rwa[a0i (by omega)]at this
 have lL:=bQ okL;have lD:=bQ okD;have t:=af (a0b hs (a0b okL (a0b okD (a0b hL (a0b hD (a0b hn hT))))));have H:Hid (MS w b s w (.slice a n cap) T p false):=⟨KU.refl _ _,ho,bk⟩;have HJ:=af (a0b jL jD);have HD:=af hd;have Hp:=af hp;have C1:=af (dH al A nL L w hL jL.1 (by omega));clear hn ho hr hp hs hT hL hD okL okD jL jD hd bk;go_enter func211,ntmps211;go_wp2_with fail;refine(ae C1).mono ?_;rintro e x1 ⟨rfl,o1,b1⟩;have C2:=af (dH ad z nD D x1 (ae t).2.2.2.2.1 ((ae HJ).2.later b1).1 (by have:=(ae t).2.2.2.2.1;omega));have Y:(bi L 15).2.length=nL:=by rw[bW];exact(ae t).2.2.2.1
 have J1:=af ((cf Y (o1.own Y)).mono (b':=b+1) a9);have F:=af b1;clear o1 b1 C1;go_wp2_with fail;refine(ae C2).mono ?_;rintro e x2 ⟨rfl,o2,b2⟩;have Z:(bi D 15).2.length=nD:=by rw[bW];exact(ae t).2.2.2.2.1
 have N:b+1<=x1.heap.size:=a0G a9 (ae F).size;have J2:=af ((cf Z (o2.own Z)).mono (b':=b+1) N);have J1':=af ((ae J1).later b2);have hB:Below w.heap.size w x2:=(ae F).trans (b2.mono (ae F).size);generalize x1.heap.size=g2 at *
 generalize a4:w.heap.size=g1 at *
 have ao:MS w b s x2 (.slice a n cap) T p false:=⟨(ae H).1.later (by rw[a4];exact hB) (by omega),(ae H).2.1.later hB (by omega),(ae H).2.2.kept (hB.mono (by omega))⟩;have h0:(false=true∨300<T.length)->d=none:=by
  rintro(h|h)
  . cases h
  . have:=ae t;omega
 have HI:Hid (TmI b s L D g1 g2 p d w (.slice a n cap) x2):=⟨p,T,false,ao,ae J1',ae J2,fun _=>by have:=ae t;omega,fun _=>⟨ae Hp,a0a _⟩,fun _ _=>ae HD,h0⟩;have HW:Hid (∀W,KU b w W->ce W (b+1) al L/\ce W (b+1) ad D):=fun W hW=>⟨(ae HJ).1.ku hW (a0p _),(ae HJ).2.ku hW (a0p _)⟩;clear h0 o2 b2 C2 hB ao H F J1 J1' J2 Y Z HD HJ N a4;go_wp2_with fail
 go_loopw [1,11] (fun v _ wr=>TmI b s L D g1 g2 p d w v wr) (fun _ _ wr=>py b (8*s.size) wr)
 case atStart=>exact ae HI
 case round=>
  obtain⟨q,R,f,E,j1,j2,ac,hq,j,be⟩:=hrel;clear HI;obtain⟨m,hm⟩:∃m,R.length=m:=⟨_,rfl⟩;obtain⟨va,vc,rfl⟩:=E.2.1.formN hm;obtain⟨c2,f2⟩:=E.2.2.bad;have g:=af E;have I:=af (a0b j1 (a0b j2 (a0b hq (a0b j be))));have x:=af hm;have bq:=af ac;have HF:=af E.2.2.far;clear E j1 j2 hq j be ac hm;cases f
  .
   have b5:(m:Int)<=400:=by have:=ae bq rfl;have:=ae x;omega
   by_cases ba:m<=300
   .
    have bb:(m:Int)<=300:=by omega
    have hW:=ae HW wr (ae g).1;have hq:=(ae I).2.2.1 rfl;have j:=(ae I).2.2.2.1 rfl (by rw[ae x];exact ba);have i:=af (qe al (some ⟨g1,0,none⟩) A nL nL b q L s wr (ae t).2.2.2.1 (ae t).2.1 (by have:=ae t;omega) (nK (ae g).2.2 hq.1) hq.1 (fun W h=>(hW.1.keep1 h (a0p _)).1) (fun W h=>((ae I).1.keep1 h (a0p _)).1));have Hq:=af hq;clear hW hq;unfold od at i;rcases J:dec L (ai s) (8*s.size) q with _|⟨k,P⟩
    . rw[J]at i;rw[vP J]at j;have Hn:Hid (d=none):=j.symm;clear J j;go_wp2_with fail;refine(ae i).mono ?_;rintro e x3 ⟨r,xx,qq,rfl,u⟩;have c:=af ((ae g).keep1 r u);obtain⟨c3,f3⟩:=u.bad;clear r u i g c2 f2;go_wp2;go_ret;exact(ae c).end (MR.bad (fun _=>ae Hn))
    .
     rw[J]at i;have B:=fo J;have a6:k<=300:=by have:=bQ (ae t).2.1;omega
     have V:=B.2.2.1;have l:=af (a0b B.1 B.2.1);by_cases hk:k=256
     .
      subst hk;rw[tU J]at j;have Q:=af j;clear J j B;go_wp2_with fail;refine(ae i).mono ?_;rintro e x3 ⟨r,rfl,u⟩;have o:RF x3 b s P false:=by have:=dC u;rwa[a0i (by have:=ae l;omega)]at this
      have c:=af ((ae g).keep1 r o);obtain⟨c3,f3⟩:=o.bad;clear r u o i g c2 f2;go_wp2;go_ret;refine(ae c).end ⟨fun _=>⟨(ae l).1,by have:=ae l;have:=ae Hq;omega,by rw[ae x];omega⟩,fun _ _ _=>(ae Q).symm,fun _ h=>?_,fun h=>by have:=ae t;omega⟩;rcases h with h|h
      . cases h
      . rw[ae x]at h;omega
     .
      rw[qf J hk]at j;have Q:=af j;clear J j B;obtain⟨y,hy⟩:=a0r V;subst hy;have a7:¬ (y:Int)=256:=hk;by_cases X:y<256
      .
       have a5:(y:Int)<256:=by omega
       have hu:IntKind.u8.wrap (y:Int)=(y:Int):=vT (by omega) (by omega);have G:Hid ((if m+1<=300 then gp (ai s) (8*s.size) L D P (R++[cV (y:Int)])else none)=d):=by
        show _=d;rw[←ae Q];have e1:oneG (ai s) (8*s.size) D (y:Int) P=some (((y:Int),0,0),P):=by unfold oneG;rw[a0e a5]
        rw[e1];simp only[a0f];rw[jT R y X,ae x]
        split<;>rfl
       clear hk X V Q;go_wp2_with fail;refine(ae i).mono ?_;rintro e x3 ⟨r,rfl,u⟩;have o:RF x3 b s P false:=by have:=dC u;rwa[a0i (by have:=ae l;omega)]at this
       have c:=af ((ae g).keep1 r o);obtain⟨c3,f3⟩:=o.bad;have J3:=af (a0b ((ae I).1.keep1 r (a0p _)) ((ae I).2.1.keep1 r (a0p _)));have aa:=af ((ae c).2.1.own (ae x));have a3:b+1<=x3.heap.size:=(ae c).lt;have bd:Hid (m+1<=maxLen/\(m+1)*1<=140737488355328):=by show _/\_;unfold maxLen;omega
       clear r u o i g c2 f2;go_wp2_with (at_builtin;refine a0x _ rfl _ _ 22 rfl (b+1) 5 i0 (.int .u8 0) 1 1 a0M hi bz b0 b3 rfl (by decide) (.slice va m vc) _ _ rfl (a0n (ae aa) _) ⟨x3.heap.size,0,none⟩ 1 1 [.int .u8 (y:Int)] rfl rfl (bh _ _ rfl _ _) (one_byte _) (ae bd).1 (ae bd).2 (an a3 _) ?_;intro v' x6 O C bc;clear bc);have K:cw (b+1) x3 x6:=gQ C (ae aa) (a0a _) a3 (cw.refl _ _);have a2:aN x6 (b+1) v' (R++[cV (y:Int)]):=bX (ae x) (by rw[dU (by omega) (by omega)];exact O);have U:=(ae c).belU K a2;have bs:(R++[cV (y:Int)]).length=m+1:=by rw[a0m,ae x];rfl
       have HI:Hid (TmI b s L D g1 g2 p d w v' x6):=by
        refine⟨P,_,false,U,(ae J3).1.belU K,(ae J3).2.belU K,fun _=>by omega,fun _=>⟨(ae l).1,by have:=ae l;have:=ae Hq;omega⟩,fun _ h=>?_,fun h=>?_⟩
        . have:=ae G;rwa[a0e (by omega)]at this
        .
         have:=ae G;rcases h with h|h
         . cases h
         . rw[a0d (by omega)]at this;exact this.symm
       have S:=af U.2.2.far;clear O C K a2 U c aa J3 bs;go_wp2_with fail;go_roundw
       case rel=>exact ae HI
       case measure=>
        rw[ae S,ae HF];have:=ae l;have:=ae Hq;simp only[a0Z,a00];omega
      .
       obtain⟨kk,ey⟩:∃kk:Nat,(y:Int)=(kk:Int)+257:=⟨y-257,by omega⟩;rw[ey]at i Q a6 a7;have b4:(kk:Int)<=43:=by omega
       have G:=af (Lz.symm.trans (ae Q));clear hk X V Q ey a6;go_wp2_with fail;refine(ae i).mono ?_;rintro e x3 ⟨r,rfl,u⟩;have o:RF x3 b s P false:=by have:=dC u;rwa[a0i (by have:=ae l;omega)]at this
       have c:=af ((ae g).keep1 r o);obtain⟨c3,f3⟩:=o.bad;have J3:=af (a0b ((ae I).1.keep1 r (a0p _)) ((ae I).2.1.keep1 r (a0p _)));have a1:=ae HW x3 (ae c).1;have ab:=af (EO b P m vc kk nD z nD va ad (some ⟨g2,0,none⟩) s R D x3 (ae x) (ae c).2.1 u (ae l).1 (ae t).1 ba (by omega) (ae t).2.2.2.2.1 (ae t).2.2.1 (fun W h=>(a1.2.keep1 h (a0p _)).1) (fun W h=>((ae J3).2.keep1 h (a0p _)).1));clear r u o i g c2 f2 a1;go_wp2_with fail;refine(ae ab).mono ?_;rintro e x4 ⟨k4,v4,T4,q4,f4,rfl,o4,r4,e4⟩;have a0:MS w b s x4 v4 T4 q4 f4:=⟨(ae c).1.trans k4,o4,r4⟩;have HI:Hid (TmI b s L D g1 g2 p d w v4 x4):=by
        have M:=ae G;rw[e4]at M;refine⟨q4,T4,f4,a0,(ae J3).1.ku k4 (a0p _),(ae J3).2.ku k4 (a0p _),fun h=>?_,fun h=>?_,fun h h2=>?_,fun h=>?_⟩
        . rw[h]at e4;have:=NW e4;rw[ae x]at this;omega
        . rw[h]at e4;have:=NG e4;have:=ae l;have:=ae Hq;omega
        . rw[h]at M;simp only[a0Z,a00,a0f]at M;rwa[a0e h2]at M
        .
         cases f4
         .
          rcases h with h|h
          . cases h
          . simp only[a0Z,a00,a0f]at M;rw[a0d (by omega)]at M;exact M.symm
         . exact M.symm
       have S:Hid (py b (8*s.size) x4<py b (8*s.size) wr):=by
        show _<_;rw[r4.far,ae HF];have:=ae l;have:=ae Hq;cases f4
        . have:=NG e4;simp only[a0Z,a00];omega
        . simp only[a0R,a0Z,a00];omega
       clear k4 o4 r4 e4 a0 c J3 ab c3 f3;go_wp2_with fail;go_roundw
       case rel=>exact ae HI
       case measure=>exact ae S
   .
    have bb:¬ (m:Int)<=300:=by omega
    have Hn:Hid (d=none):=(ae I).2.2.2.2 (.inr (by rw[ae x];omega));go_wp2;go_ret;exact((ae g).setBad).end (MR.bad (fun _=>ae Hn))
  . have Hn:Hid (d=none):=(ae I).2.2.2.2 (.inl rfl);go_wp2;go_ret;exact((ae g).setBad).end (MR.bad (fun _=>ae Hn))
theorem As(b p n cap nL j nD i:Nat)(a al ad:Option Addr)(s:ByteArray)(T:List UInt8)(L D:List Int)(d:Option (List UInt8×Nat))(w:World)(E:T.length=n)(G:aN w (b+1) (.slice a n cap) T)(r:Rdr w b s p)(K:p<=8*s.size)(B:300<n)(q:n<=100000)
  (A:L.length=nL) (z:D.length=nD) (okL:av L=true) (okD:av D=true) (jL:ce w (b+1) al L) (jD:ce w (b+1) ad D) :
  Calls prog 211 #[.pointer (some ⟨b,0,none⟩),.slice a n cap,.slice al nL j,.slice ad nD i] w (MP w b p s T d):=by
 have k:=r.lt;have l:RF w b s p false:=by have:=dC r;rwa[a0i (by omega)]at this
 have lL:=bQ okL;have lD:=bQ okD;have f:Hid (MS w b s w (.slice a n cap) T p false):=⟨KU.refl _ _,G,l⟩;have t:=af (dH al j nL L w A jL.1 (by omega));have u:=af (fun W (I:Below w.heap.size w W)=>dH ad i nD D W z (jD.later I).1 (by omega));have H:=af (a0b E B);have J:¬ (n:Int)<=300:=by omega
 have F:(n:Int)<=100000:=by omega
 clear E G r K B q A z okL okD jL jD l;go_enter func211,ntmps211;go_wp2_with fail;refine(ae t).mono ?_;rintro e x1 ⟨rfl,o1,x⟩;have c:=af x;clear o1 x t;go_wp2_with fail;refine(ae u x1 (ae c)).mono ?_;rintro e x2 ⟨rfl,o2,y⟩;have m:Below w.heap.size w x2:=(ae c).trans (y.mono (ae c).size);have g:MS w b s x2 (.slice a n cap) T p false:=⟨(ae f).1.later m k,(ae f).2.1.later m (a0a _),(ae f).2.2.kept (m.mono k)⟩;have o:=af g;obtain⟨c2,f2⟩:=g.2.2.bad;have C:=g.lt;clear o2 y u m g f c;go_wp2_with fail
 go_loopw [1,11] (fun v _ wr=>v = .slice a n cap/\wr=x2) (fun _ _ _=>0)
 case atStart=>exact⟨rfl,rfl⟩
 case round=>
  obtain⟨rfl,rfl⟩:=hrel;go_wp2;go_ret;exact((ae o).setBad).end (MR.bad (fun h=>by have:=ae H;omega))
structure KI (b B:Nat) (w w':World):Prop where
 below:Below b w w'
 keep:∀j,j<B->j≠b->j<w.heap.size->w'.heap[j]?=w.heap[j]?
theorem KI.refl(b B:Nat)(w:World):KI b B w w:=⟨a0c _ _,fun _ _ _ _=>rfl⟩
theorem KI.trans(h:KI b B w w1)(k:KI b B w1 w2):KI b B w w2:=⟨h.1.trans k.1,fun j a h2 c=>(k.2 j a h2 (a0j c h.1.size)).trans (h.2 j a h2 c)⟩
theorem aw.ki(h:aw b w w')(B:Nat):KI b B w w':=⟨h.1,fun j _ a c=>h.2 j c a⟩
def NS(w:World)(b B:Nat)(s:ByteArray)(x:World)(v:Value)(A:List Int)(q:Nat)(f:Bool):Prop:=KI b B w x/\ay x B v A/\RF x b s q f/\B<=x.heap.size
theorem NS.keep1{f':Bool}(h:NS w b B s x v A q f)(hb:b<B)(a:aw b x x')(c:RF x' b s q' f'):NS w b B s x' v A q' f':=⟨h.1.trans (a.ki B),h.2.1.keep1' a hb,c,a0G h.2.2.2 a.1.size⟩
theorem NS.setBad(h:NS w b B s x v A q f)(hb:b<B):NS w b B s (x.setCell ⟨b,2,none⟩ (.bool true)) v A q true:=h.keep1 hb (bj _ _ _ _) h.2.2.1.setBad
theorem NS.grown{A':List Int}{o:Obj}(h:NS w b B s x v A q f)(hb:b<B)(d:(x.alloc o).grownBy x' v.ownBlock)(m:ay x' B v' A'):NS w b B s x' v' A' q f:=by
 have g:∀j,j<B->some j≠v.ownBlock:=fun j p e=>by
  have:=(a0D h.2.1 j e.symm).1;omega
 have l:∀j,j<B->j<x.heap.size->x'.heap[j]?=x.heap[j]?:=fun j c h2=>(d.block j (by simp;omega) (g j c)).trans (a2h x o j h2);have n:x.heap.size<=x'.heap.size:=by have:=d.size;simp at this;omega
 have a:Below (b+1) x x':=((a0c _ x).alloc (by have:=h.2.2.2;omega) o).grown d (by have:=h.2.2.2;simp;omega) (fun k e=>by have:=(a0D h.2.1 k e).1;omega);exact⟨h.1.trans ⟨a.mono (a1e _),fun j c _ i=>l j c i⟩,m,h.2.2.1.kept a,a0G h.2.2.2 n⟩
def MnP(w:World)(b B q:Nat)(s:ByteArray)(A:List Int)(k:Int)(f:Bool)(e:Ending)(w':World):Prop:=
 ∃v A' q' f',e = .returned v/\NS w b B s w' v A' q' f'/\(f=true->f'=true)/\(f=false->dt (ai s) (8*s.size) A k q=if f'=true then none else some (A',q'))
theorem zl(b B q n cap:Nat)(a:Option Addr)(s:ByteArray)(A:List Int)(k:Int)(f:Bool)(w:World)(hn:A.length=n)(al:n<=600)(h:NS w b B s w (.slice a n cap) A q f)(hb:b<B)(hf:f=false->q<=8*s.size)(hs:s.size<=2000) :
  Calls prog 255 #[.pointer (some ⟨b,0,none⟩),.slice a n cap,.int .i64 k] w (MnP w b B q s A k f):=by
 obtain⟨i0,hi,W,X,Y⟩:=a0w Tryz.infoInt;have u:=af h;have x:=af (a0b hn (a0b al (a0b hb hs)));have HF:=af hf;have a5:(n:Int)<=600:=by omega
 obtain⟨c0,f0⟩:=h.2.2.1.bad;clear h hn al hb hf hs;go_enter func255,ntmps255;by_cases O:k=16
 .
  subst O;by_cases h0:n=0
  .
   have ad:(n:Int)=0:=by omega
   have hz:Hid (dt (ai s) (8*s.size) A 16 q=none):=by show _=_;unfold dt;rw[a0e rfl,a0e (by rw[(ae x).1];exact h0)]
   have Z:=af ((ae u).setBad (ae x).2.2.1);clear h0;go_wp2_with fail;generalize w.setCell ⟨b,2,none⟩ (.bool true)=XW at *
   have c4:=(ae Z).2.2.1.bad.1
   go_loopw [1,9] (fun v i wr=>v = .slice a n cap/\i = .int .i64 0/\wr=XW) (fun _ _ _=>0)
   case atStart=>exact⟨by first|rfl|(rw[ad])|simp[ad],rfl,rfl⟩
   case round=>
    obtain⟨rfl,rfl,rfl⟩:=hrel;go_wp2;go_ret;exact⟨_,_,_,true,rfl,ae Z,fun _=>rfl,fun _=>ae hz⟩
  .
   obtain⟨g,rfl⟩:=(ae u).2.1.somes (by rw[(ae x).1];omega);obtain⟨m1,hm1⟩:∃m,n-1=m:=⟨_,rfl⟩;have a4:(n:Int)-1=(m1:Int):=by omega
   have a2:(m1:Int)<(n:Int):=by omega
   have a0:Hid (A.getD (A.length-1) 0=A.getD m1 0):=by show _=_;rw[(ae x).1,hm1]
   have cL:=((ae u).2.1.at (ae x).1 (show m1<n by omega)).1;have Hz:Hid (¬ A.length=0):=by show ¬ _;rw[(ae x).1];exact h0
   clear h0 hm1;generalize A.getD m1 0=L at *
   have P:=af (hJ b q 2 f s w (ae u).2.2.1 (ae HF) (by have:=ae x;omega) (by omega));obtain⟨y,hy⟩:∃y,ai s/2 ^ q%2 ^ 2=y:=⟨_,rfl⟩;have ao:(y:Int)<=3:=by omega
   obtain⟨CN,hCN⟩:∃c,3+y=c:=⟨_,rfl⟩;obtain⟨F,I⟩:∃F,(f || decide (8*s.size<q+2))=F:=⟨_,rfl⟩;have R:Hid ((f=true->F=true)/\(f=false->dt (ai s) (8*s.size) A 16 q=if F=true then none else some (A++List.replicate CN L,q+2))):=by
    refine⟨fun h=>by rw[←I,h];rfl,fun h=>?_⟩;rw[←I,h,a2m];unfold dt;rw[a0e rfl,a0d (ae Hz),ae a0];by_cases J:q+2<=8*s.size
    . rw[ck J,a0i (by omega),hy];simp only[a0f];rw[hCN];rfl
    . rw[eA J,a0y (by omega)];rfl
   have eC:(3:Int)+(y:Int)=(CN:Int):=by omega
   rw[I,hy]at P;clear hy I hCN;go_wp2_with fail;refine(ae P).mono ?_;rintro e XW ⟨rfl,r1,k1⟩;have t:=af ((ae u).keep1 (ae x).2.2.1 k1 r1);generalize hQ:q+2=Q at *
   clear k1 r1 P u c0 f0 hQ;go_wp2_with fail;have c4:=(ae t).2.2.1.bad.1
   go_loopw [1,9] (fun v i wr=>∃j:Nat,j<=CN/\i = .int .i64 j/\(F=true->j=0)/\NS w b B s wr v (A++List.replicate j L) Q F) (fun _ i _=>CN-(intOf i).toNat)
   case atStart=>exact⟨0,a0g _,rfl,fun _=>rfl,by rw[a3b,a1k];exact ae t⟩
   case round=>
    obtain⟨j,hj,rfl,D,o⟩:=hrel;clear t c4;obtain⟨m,hm⟩:∃m,(A++List.replicate j L).length=m:=⟨_,rfl⟩;have ab:m<=900:=by rw[←hm,a0m,a0z,(ae x).1];have:=(ae x).2.1;omega
    obtain⟨va,vc,rfl⟩:=o.2.1.formN hm;obtain⟨c5,f5⟩:=o.2.2.1.bad;have S:=af hm;have l:=af o;have aa:=af D;clear o hm D;have p:Hid ((F=true∨¬ j<CN)->MnP w b B q s A 16 f (.returned (.slice va m vc)) wr):=by
     intro J;refine⟨_,_,Q,F,rfl,ae l,(ae R).1,fun M=>?_⟩;rw[(ae R).2 M];cases I:F
     .
      have:j=CN:=by
       rcases J with h|h
       . rw[I]at h;cases h
       . omega
      rw[this]
     . rfl
    by_cases E:j<CN
    .
     have G:(j:Int)<(CN:Int):=by omega
     cases F
     .
      have N:=af ((ae l).2.1.own (ae S));have K:B<=wr.heap.size:=(ae l).2.2.2;have T:Hid (m+1<=maxLen/\(m+1)*8<=140737488355328):=by show _/\_;unfold maxLen;omega
      go_wp2_with (at_builtin;refine a0x _ rfl _ _ 65 rfl B 3 i0 (.int .i64 0) 1 8 a0I hi W X Y rfl (by decide) (.slice va m vc) _ _ rfl (a0n (ae N) _) ⟨wr.heap.size,0,none⟩ 1 1 [.int .i64 L] rfl rfl (bh _ _ rfl _ _) (fE _) (ae T).1 (ae T).2 (an K _) ?_;intro v' x6 r d H;clear H);have C:ay x6 B v' (A++List.replicate (j+1) L):=by
       have:=db (ae S) r;rw[a0H,←a27]at this;exact this
      have z:=af ((ae l).grown (ae x).2.2.1 d C);clear r d C;go_wp2_with fail;go_roundw
      case rel=>first|exact⟨j+1,by omega,by go_num,nofun,ae z⟩|exact⟨j+1,by omega,by go_num,ae z⟩
      case measure=>simp[intOf];omega
     . go_wp2;go_ret;exact ae p (a0s (by simp))
    .
     have G:¬ (j:Int)<(CN:Int):=by omega
     go_wp2;go_ret;exact ae p (.inr E)
 .
  have ac:¬ k=16:=O;by_cases U:k=17
  .
   subst U;clear O ac;have P:=af (hJ b q 3 f s w (ae u).2.2.1 (ae HF) (by have:=ae x;omega) (by omega));obtain⟨y,hy⟩:∃y,ai s/2 ^ q%2 ^ 3=y:=⟨_,rfl⟩;have ao:(y:Int)<=7:=by omega
   obtain⟨CN,hCN⟩:∃c,3+y=c:=⟨_,rfl⟩;obtain⟨F,I⟩:∃F,(f || decide (8*s.size<q+3))=F:=⟨_,rfl⟩;have R:Hid ((f=true->F=true)/\(f=false->dt (ai s) (8*s.size) A 17 q=if F=true then none else some (A++List.replicate CN 0,q+3))):=by
    refine⟨fun h=>by rw[←I,h];rfl,fun h=>?_⟩;rw[←I,h,a2m];unfold dt;rw[a0d (by decide),a0e rfl];by_cases J:q+3<=8*s.size
    . rw[ck J,a0i (by omega),hy];simp only[a0f];rw[hCN];rfl
    . rw[eA J,a0y (by omega)];rfl
   have eC:(3:Int)+(y:Int)=(CN:Int):=by omega
   rw[I,hy]at P;clear hy I hCN;go_wp2_with fail;refine(ae P).mono ?_;rintro e XW ⟨rfl,r1,k1⟩;have t:=af ((ae u).keep1 (ae x).2.2.1 k1 r1);generalize hQ:q+3=Q at *
   clear k1 r1 P u c0 f0 hQ;go_wp2_with fail;have c4:=(ae t).2.2.1.bad.1
   go_loopw [1,9] (fun v i wr=>∃j:Nat,j<=CN/\i = .int .i64 j/\(F=true->j=0)/\NS w b B s wr v (A++List.replicate j 0) Q F) (fun _ i _=>CN-(intOf i).toNat)
   case atStart=>exact⟨0,a0g _,rfl,fun _=>rfl,by rw[a3b,a1k];exact ae t⟩
   case round=>
    obtain⟨j,hj,rfl,D,o⟩:=hrel;clear t c4;obtain⟨m,hm⟩:∃m,(A++List.replicate j 0).length=m:=⟨_,rfl⟩;have ab:m<=900:=by rw[←hm,a0m,a0z,(ae x).1];have:=(ae x).2.1;omega
    obtain⟨va,vc,rfl⟩:=o.2.1.formN hm;obtain⟨c5,f5⟩:=o.2.2.1.bad;have S:=af hm;have l:=af o;have aa:=af D;clear o hm D;have p:Hid ((F=true∨¬ j<CN)->MnP w b B q s A 17 f (.returned (.slice va m vc)) wr):=by
     intro J;refine⟨_,_,Q,F,rfl,ae l,(ae R).1,fun M=>?_⟩;rw[(ae R).2 M];cases I:F
     .
      have:j=CN:=by
       rcases J with h|h
       . rw[I]at h;cases h
       . omega
      rw[this]
     . rfl
    by_cases E:j<CN
    .
     have G:(j:Int)<(CN:Int):=by omega
     cases F
     .
      have N:=af ((ae l).2.1.own (ae S));have K:B<=wr.heap.size:=(ae l).2.2.2;have T:Hid (m+1<=maxLen/\(m+1)*8<=140737488355328):=by show _/\_;unfold maxLen;omega
      go_wp2_with (at_builtin;refine a0x _ rfl _ _ 65 rfl B 3 i0 (.int .i64 0) 1 8 a0I hi W X Y rfl (by decide) (.slice va m vc) _ _ rfl (a0n (ae N) _) ⟨wr.heap.size,0,none⟩ 1 1 [.int .i64 0] rfl rfl (bh _ _ rfl _ _) (fE _) (ae T).1 (ae T).2 (an K _) ?_;intro v' x6 r d H;clear H);have C:ay x6 B v' (A++List.replicate (j+1) 0):=by
       have:=db (ae S) r;rw[a0H,←a27]at this;exact this
      have z:=af ((ae l).grown (ae x).2.2.1 d C);clear r d C;go_wp2_with fail;go_roundw
      case rel=>first|exact⟨j+1,by omega,by go_num,nofun,ae z⟩|exact⟨j+1,by omega,by go_num,ae z⟩
      case measure=>simp[intOf];omega
     . go_wp2;go_ret;exact ae p (a0s (by simp))
    .
     have G:¬ (j:Int)<(CN:Int):=by omega
     go_wp2;go_ret;exact ae p (.inr E)
  .
   have a1:¬ k=17:=U;by_cases V:k=18
   .
    subst V;clear O U ac a1;have P:=af (hJ b q 7 f s w (ae u).2.2.1 (ae HF) (by have:=ae x;omega) (by omega));obtain⟨y,hy⟩:∃y,ai s/2 ^ q%2 ^ 7=y:=⟨_,rfl⟩;have ao:(y:Int)<=127:=by omega
    obtain⟨CN,hCN⟩:∃c,11+y=c:=⟨_,rfl⟩;obtain⟨F,I⟩:∃F,(f || decide (8*s.size<q+7))=F:=⟨_,rfl⟩;have R:Hid ((f=true->F=true)/\(f=false->dt (ai s) (8*s.size) A 18 q=if F=true then none else some (A++List.replicate CN 0,q+7))):=by
     refine⟨fun h=>by rw[←I,h];rfl,fun h=>?_⟩;rw[←I,h,a2m];unfold dt;rw[a0d (by decide),a0d (by decide),a0e rfl];by_cases J:q+7<=8*s.size
     . rw[ck J,a0i (by omega),hy];simp only[a0f];rw[hCN];rfl
     . rw[eA J,a0y (by omega)];rfl
    have eC:(11:Int)+(y:Int)=(CN:Int):=by omega
    rw[I,hy]at P;clear hy I hCN;go_wp2_with fail;refine(ae P).mono ?_;rintro e XW ⟨rfl,r1,k1⟩;have t:=af ((ae u).keep1 (ae x).2.2.1 k1 r1);generalize hQ:q+7=Q at *
    clear k1 r1 P u c0 f0 hQ;go_wp2_with fail;have c4:=(ae t).2.2.1.bad.1
    go_loopw [1,9] (fun v i wr=>∃j:Nat,j<=CN/\i = .int .i64 j/\(F=true->j=0)/\NS w b B s wr v (A++List.replicate j 0) Q F) (fun _ i _=>CN-(intOf i).toNat)
    case atStart=>exact⟨0,a0g _,rfl,fun _=>rfl,by rw[a3b,a1k];exact ae t⟩
    case round=>
     obtain⟨j,hj,rfl,D,o⟩:=hrel;clear t c4;obtain⟨m,hm⟩:∃m,(A++List.replicate j 0).length=m:=⟨_,rfl⟩;have ab:m<=900:=by rw[←hm,a0m,a0z,(ae x).1];have:=(ae x).2.1;omega
     obtain⟨va,vc,rfl⟩:=o.2.1.formN hm;obtain⟨c5,f5⟩:=o.2.2.1.bad;have S:=af hm;have l:=af o;have aa:=af D;clear o hm D;have p:Hid ((F=true∨¬ j<CN)->MnP w b B q s A 18 f (.returned (.slice va m vc)) wr):=by
      intro J;refine⟨_,_,Q,F,rfl,ae l,(ae R).1,fun M=>?_⟩;rw[(ae R).2 M];cases I:F
      .
       have:j=CN:=by
        rcases J with h|h
        . rw[I]at h;cases h
        . omega
       rw[this]
      . rfl
     by_cases E:j<CN
     .
      have G:(j:Int)<(CN:Int):=by omega
      cases F
      .
       have N:=af ((ae l).2.1.own (ae S));have K:B<=wr.heap.size:=(ae l).2.2.2;have T:Hid (m+1<=maxLen/\(m+1)*8<=140737488355328):=by show _/\_;unfold maxLen;omega
       go_wp2_with (at_builtin;refine a0x _ rfl _ _ 65 rfl B 3 i0 (.int .i64 0) 1 8 a0I hi W X Y rfl (by decide) (.slice va m vc) _ _ rfl (a0n (ae N) _) ⟨wr.heap.size,0,none⟩ 1 1 [.int .i64 0] rfl rfl (bh _ _ rfl _ _) (fE _) (ae T).1 (ae T).2 (an K _) ?_;intro v' x6 r d H;clear H);have C:ay x6 B v' (A++List.replicate (j+1) 0):=by
        have:=db (ae S) r;rw[a0H,←a27]at this;exact this
       have z:=af ((ae l).grown (ae x).2.2.1 d C);clear r d C;go_wp2_with fail;go_roundw
       case rel=>first|exact⟨j+1,by omega,by go_num,nofun,ae z⟩|exact⟨j+1,by omega,by go_num,ae z⟩
       case measure=>simp[intOf];omega
      . go_wp2;go_ret;exact ae p (a0s (by simp))
     .
      have G:¬ (j:Int)<(CN:Int):=by omega
      go_wp2;go_ret;exact ae p (.inr E)
   .
    have a3:¬ k=18:=V;have t:=u;have R:Hid ((f=true->f=true)/\(f=false->dt (ai s) (8*s.size) A k q=if f=true then none else some (A++List.replicate 1 k,q))):=by
     refine⟨id,fun h=>?_⟩;rw[h];unfold dt;rw[a0d O,a0d U,a0d V];rfl
    clear u c0 f0 O U V;go_wp2_with fail;have c4:=(ae t).2.2.1.bad.1
    go_loopw [1,9] (fun v i wr=>∃j:Nat,j<=1/\i = .int .i64 j/\(f=true->j=0)/\NS w b B s wr v (A++List.replicate j k) q f) (fun _ i _=>1-(intOf i).toNat)
    case atStart=>exact⟨0,a0g _,rfl,fun _=>rfl,by rw[a3b,a1k];exact ae t⟩
    case round=>
     obtain⟨j,hj,rfl,D,o⟩:=hrel;clear t c4;obtain⟨m,hm⟩:∃m,(A++List.replicate j k).length=m:=⟨_,rfl⟩;have ab:m<=900:=by rw[←hm,a0m,a0z,(ae x).1];have:=(ae x).2.1;omega
     obtain⟨va,vc,rfl⟩:=o.2.1.formN hm;obtain⟨c5,f5⟩:=o.2.2.1.bad;have S:=af hm;have l:=af o;have aa:=af D;clear o hm D;have p:Hid ((f=true∨¬ j<1)->MnP w b B q s A k f (.returned (.slice va m vc)) wr):=by
      intro J;refine⟨_,_,q,f,rfl,ae l,(ae R).1,fun M=>?_⟩;rw[(ae R).2 M];cases I:f
      .
       have:j=1:=by
        rcases J with h|h
        . rw[I]at h;cases h
        . omega
       rw[this]
      . rfl
     by_cases E:j<1
     .
      have G:(j:Int)<(1:Int):=by omega
      cases f
      .
       have N:=af ((ae l).2.1.own (ae S));have K:B<=wr.heap.size:=(ae l).2.2.2;have T:Hid (m+1<=maxLen/\(m+1)*8<=140737488355328):=by show _/\_;unfold maxLen;omega
       go_wp2_with (at_builtin;refine a0x _ rfl _ _ 65 rfl B 3 i0 (.int .i64 0) 1 8 a0I hi W X Y rfl (by decide) (.slice va m vc) _ _ rfl (a0n (ae N) _) ⟨wr.heap.size,0,none⟩ 1 1 [.int .i64 k] rfl rfl (bh _ _ rfl _ _) (fE _) (ae T).1 (ae T).2 (an K _) ?_;intro v' x6 r d H;clear H);have C:ay x6 B v' (A++List.replicate (j+1) k):=by
        have:=db (ae S) r;rw[a0H,←a27]at this;exact this
       have z:=af ((ae l).grown (ae x).2.2.1 d C);clear r d C;go_wp2_with fail;go_roundw
       case rel=>first|exact⟨j+1,by omega,by go_num,nofun,ae z⟩|exact⟨j+1,by omega,by go_num,ae z⟩
       case measure=>simp[intOf];omega
      . go_wp2;go_ret;exact ae p (a0s (by simp))
     .
      have G:¬ (j:Int)<(1:Int):=by omega
      go_wp2;go_ret;exact ae p (.inr E)
def lbV(V:Nat):List Nat->Nat->List Int->List Int
 | [],_,l=>l
 | i :: is,p,l=>lbV V is (p+3) (l.set i ((V/2 ^ p%2 ^ 3:Nat):Int))
theorem Mv(V:Nat):∀(is:List Nat) (p:Nat) (l:List Int),(lbV V is p l).length=l.length:=by
 intro is;induction is with
 | nil=>intro p l;rfl
 | cons i is ih=>intro p l;simp only[lbV];rw[ih,a1I]
theorem Pm: ∀(is:List Nat) (p:Nat) (l:List Int),p<=sz->lbG V sz is p l=if p+3*is.length<=sz then some (lbV V is p l,p+3*is.length)else none:=by
 intro is;induction is with
 | nil=>intro p l h;simp[lbG,lbV,h]
 | cons i is ih=>
  intro p l h;simp only[lbG,lbV,a0B];by_cases a:p+3<=sz
  . rw[ck a];simp only[a0f];rw[ih _ _ a,show p+3+3*is.length=p+3*(is.length+1) by omega]
  . rw[eA a,a0d (by omega)];rfl
def gq(V sz p:Nat):Option (Nat×List Int×Nat):=
 (rdN V sz p 5).bind fun a=>(rdN V sz a.2 5).bind fun c=>if a.1+257<=286/\c.1+1<=30 then
  (rdN V sz c.2 4).bind fun m=>(iT V sz (m.1+4) m.2).bind fun B=>(lnG V sz B.1 (a.1+257+(c.1+1)) B.2 []).bind fun A=>
   if av (A.1.take (a.1+257))=true/\av (A.1.drop (a.1+257))=true then some (a.1+257,A.1,A.2)else none
  else none
theorem vu: tt V sz p T=(gq V sz p).bind fun x=>gp V sz (x.2.1.take x.1) (x.2.1.drop x.1) x.2.2 T:=by
 unfold tt gq;rcases rdN V sz p 5 with _|⟨a,d⟩
 . rfl
 simp only[a0f];rcases rdN V sz d 5 with _|⟨c,e⟩
 . rfl
 simp only[a0f]
 split
 .
  rcases rdN V sz e 4 with _|⟨m,f⟩
  . rfl
  simp only[a0f];rcases iT V sz (m+4) f with _|⟨B,g⟩
  . rfl
  simp only[a0f];rcases lnG V sz B (a+257+(c+1)) g []with _|⟨A,i⟩
  . rfl
  simp only[a0f];unfold rV;by_cases b:av (A.take (a+257))=true
  .
   by_cases h2:av (A.drop (a+257))=true
   . rw[a0e b,a0e h2,a0e ⟨b,h2⟩];rfl
   . rw[a0e b,a0d h2,a0d (fun h=>h2 h.2)];rfl
  . rw[a0d b,a0d (fun h=>b h.1)];rfl
 . rfl
theorem JB(h:gq V sz p=some (n,A,q)):q<=sz/\p<=q/\av (A.take n)=true/\av (A.drop n)=true:=by
 unfold gq at h;rcases b:rdN V sz p 5 with _|⟨a,k⟩
 . rw[b]at h;cases h
 rw[b]at h;simp only[a0f]at h;rcases h2:rdN V sz k 5 with _|⟨c,l⟩
 . rw[h2]at h;cases h
 rw[h2]at h;simp only[a0f]at h
 split at h
 .
  rcases d:rdN V sz l 4 with _|⟨m,o⟩
  . rw[d]at h;cases h
  rw[d]at h;simp only[a0f]at h;rcases e:iT V sz (m+4) o with _|⟨B,r⟩
  . rw[e]at h;cases h
  rw[e]at h;simp only[a0f]at h;rcases f:lnG V sz B (a+257+(c+1)) r []with _|⟨A5,u⟩
  . rw[f]at h;cases h
  rw[f]at h;simp only[a0f]at h;have s:=bm b;have t:=bm h2;have g:=bm d;have i:=pK e g.1;have j:=Cn f i.1
  split at h
  . rename_i hk;simp only[a0k,a0O]at h;obtain⟨rfl,rfl,rfl⟩:=h;exact⟨j.1,by omega,hk.1,hk.2⟩
  . cases h
 . cases h
theorem y7{X1 X2 X3:Nat}(g:p<=sz)(d:V/2 ^ p%2 ^ 5=X1)(h2:V/2 ^ (p+5)%2 ^ 5=X2)(e:V/2 ^ (p+5+5)%2 ^ 4=X3)(f:lbV V (bp.take (X3+4)) (p+5+5+4) (List.replicate 19 0)=l) :
  gq V sz p=if p+5+5+4+3*(X3+4)<=sz/\av l=true/\X1+257<=286/\X2+1<=30 then(lnG V sz l (X1+257+(X2+1)) (p+5+5+4+3*(X3+4)) []).bind fun A=>
   if av (A.1.take (X1+257))=true/\av (A.1.drop (X1+257))=true then some (X1+257,A.1,A.2)else none else none:=by
 have a:(bp.take (X3+4)).length=X3+4:=by rw[a0v];have:bp.length=19:=rfl;omega
 unfold gq;by_cases c1:p+5<=sz
 .
  rw[ck c1];simp only[a0f];rw[d];by_cases c2:p+5+5<=sz
  .
   rw[ck c2];simp only[a0f];rw[h2];by_cases c:X1+257<=286/\X2+1<=30
   .
    rw[a0e c];by_cases c3:p+5+5+4<=sz
    .
     rw[ck c3];simp only[a0f];rw[e];unfold iT;rw[Pm _ _ _ c3,a,f];by_cases c4:p+5+5+4+3*(X3+4)<=sz
     .
      rw[a0e c4];simp only[a0f];by_cases b:av l=true
      . rw[a0e b,a0e ⟨c4,b,c⟩];rfl
      . rw[a0d b,a0d (fun h=>b h.2.1)];rfl
     . rw[a0d c4,a0d (fun h=>c4 h.1)];rfl
    . rw[eA c3,a0d (by omega)];rfl
   . rw[a0d c,a0d (fun h=>c h.2.2)]
  . rw[eA c2,a0d (by omega)];rfl
 . rw[eA c1,a0d (by omega)];rfl
def LmP(w:World)(b p:Nat)(s:ByteArray)(e:Ending)(w':World):Prop:=
 KI b w.heap.size w w'/\∃va vb q f,e = .returned (.tuple #[va,vb])/\RF w' b s q f/\(f=true->gq (ai s) (8*s.size) p=none) /\
  (f=false->∃n m A al cl ad cd,va = .slice al n cl/\vb = .slice ad m cd/\gq (ai s) (8*s.size) p=some (n,A,q)/\A.length=n+m/\ce w' (b+1) al (A.take n)/\ce w' (b+1) ad (A.drop n))
def LmI(b gL many P:Nat)(s:ByteArray)(lf:List Int)(w:World)(i:Value)(wr:World):Prop:=
 ∃(k:Nat) (l:List Int),i = .int .i64 k/\k<=many/\aw b w wr/\Rdr wr b s (P+3*k)/\ay wr gL (.slice (some ⟨gL,0,none⟩) 19 19) l/\l.length=19/\lbV (ai s) ((bp.take many).drop k) (P+3*k) l=lf/\gL<wr.heap.size
def LaI(b B N:Nat)(s:ByteArray)(l:List Int)(d:Option (List Int×Nat))(w:World)(v:Value)(x:World):Prop:=
 ∃(A:List Int) (q:Nat) (f:Bool),NS w b B s x v A q f/\(f=false->A.length<=500/\q<=8*s.size/\lnG (ai s) (8*s.size) l N q A=d)/\(f=true->d=none)
theorem KI.ku(h:KI b w.heap.size w x):KU b w x:=⟨h.1,fun j c a _=>h.2 j c a c⟩
theorem KI.grow{y:World}(h:KI b B w x)(hb:Below x.heap.size x y)(d:b<=x.heap.size):KI b B w y:=⟨h.1.trans (hb.mono d),fun j c h2 a=>(hb.block j (a0j a h.1.size)).trans (h.2 j c h2 a)⟩
theorem KI.less{a:Nat}(h:KI b B w x)(e:a<=B):KI b a w x:=⟨h.1,fun j c h2 d=>h.2 j (a0j c e) h2 d⟩
theorem ce.ki{base:Nat}(h:ce w base a l)(d:KI b w.heap.size w x)(hb:b<base):ce x base a l:=h.moved d.1.size (fun g e c _=>d.2 g c (by omega) c)
theorem LmP.badEnd{va vb:Value}{o1 o2:Obj}(d:KI b w.heap.size w x)(g:RF x b s q f)(e:gq (ai s) (8*s.size) p=none):LmP w b p s (.returned (.tuple #[va,vb])) (((x.setCell ⟨b,2,none⟩ (.bool true)).alloc o1).alloc o2):=by
 have a:=g.setBad;have c:Below (x.setCell ⟨b,2,none⟩ (.bool true)).heap.size (x.setCell ⟨b,2,none⟩ (.bool true)) (((x.setCell ⟨b,2,none⟩ (.bool true)).alloc o1).alloc o2):=((a0c _ _).alloc (a0a _) _).alloc (by simp) _;exact⟨(d.trans ((bj _ _ _ _).ki _)).grow c (a0C a.lt),va,vb,q,true,rfl,a.kept (c.mono a.lt),fun _=>e,nofun⟩
theorem zc{B:List Int}(h:sz<p):lnG V sz B n p A=none:=by
 unfold lnG;rw[show sz+1-p=0 by omega];rfl
theorem FY(b p:Nat)(s:ByteArray)(w:World)(hr:Rdr w b s p)(hp:p<=8*s.size)(hs:s.size<=2000) :
  Calls prog 214 #[.pointer (some ⟨b,0,none⟩)] w (LmP w b p s):=by
 have ch:prog.follows .mixedOrders=true:=by kernel_rfl
 obtain⟨i0,hi,co,cp,cr⟩:=a0w Tryz.infoInt;have d1:=hr.lt;obtain⟨X1,L⟩:∃X,ai s/2 ^ p%2 ^ 5=X:=⟨_,rfl⟩;obtain⟨X2,h2⟩:∃X,ai s/2 ^ (p+5)%2 ^ 5=X:=⟨_,rfl⟩;obtain⟨X3,h3⟩:∃X,ai s/2 ^ (p+5+5)%2 ^ 4=X:=⟨_,rfl⟩;obtain⟨lf,hlf⟩:∃l,lbV (ai s) (bp.take (X3+4)) (p+5+5+4) (List.replicate 19 0)=l:=⟨_,rfl⟩;have HG:=af (y7 hp L h2 h3 hlf);have N1:=af (gF b p 5 s w hr (by omega) (by omega));have N2:=af (fun W (h:Rdr W b s (p+5))=>gF b (p+5) 5 s W h (by omega) (by omega));have N3:=af (fun W (h:Rdr W b s (p+5+5))=>gF b (p+5+5) 4 s W h (by omega) (by omega));rw[L]at N1;rw[h2]at N2;rw[h3]at N3;obtain⟨NL,hNL⟩:∃n,X1+257=n:=⟨_,rfl⟩;obtain⟨NB,hNB⟩:∃n,X2+1=n:=⟨_,rfl⟩;obtain⟨many,hmany⟩:∃n,X3+4=n:=⟨_,rfl⟩;rw[hNL,hNB,hmany]at HG;rw[hmany]at hlf;have eL:(257:Int)+(X1:Int)=(NL:Int):=by omega
 have eB:(1:Int)+(X2:Int)=(NB:Int):=by omega
 have eM:(4:Int)+(X3:Int)=(many:Int):=by omega
 have bL:(NL:Int)<=288:=by omega
 have bB:(NB:Int)<=32:=by omega
 have bM:(many:Int)<=19:=by omega
 have HN:Hid (s.size<=2000/\many<=19/\b<w.heap.size/\NL<=288/\NB<=32):=⟨hs,by omega,d1,by omega,by omega⟩;generalize hP:p+5+5+4=P at *
 have bs:=af hlf;clear L h2 h3 hNL hNB hmany hlf hr hp hs;go_enter func214,ntmps214;go_wp2_with fail;refine(ae N1).mono ?_;rintro e x1 ⟨rfl,r1,k1⟩;have a5:=af (a0b r1 k1);clear r1 k1 N1;go_wp2_with fail;refine(ae N2 x1 (ae a5).1).mono ?_;rintro e x2 ⟨rfl,r2,k2⟩;have a6:=af (a0b r2 ((ae a5).2.trans k2));clear r2 k2 N2 a5;go_wp2_with fail;refine(ae N3 x2 (ae a6).1).mono ?_;rintro e x3 ⟨rfl,r3,k3⟩;have T:=af (a0b r3 ((ae a6).2.trans k3));have dd:w.heap.size<=x3.heap.size:=(ae T).2.1.size;clear r3 k3 N3 a6 hP;go_wp2_with (at_make;refine a19 _ rfl _ _ 65 rfl x3.heap.size 3 i0 (.int .i64 0) 1 a0I hi co cp .i64 .i64 _ _ 19 rfl rfl rfl rfl (by rw[cr];omega) (by unfold maxLen;omega) (a0a _) ?_;intro w1 a3 Y);have a7:ay w1 x3.heap.size (.slice (some ⟨x3.heap.size,0,none⟩) 19 19) (List.replicate 19 0):=eT a3;have D:Below x3.heap.size x3 w1:=(a0c _ _).grown Y (a0a _) (fun k h=>by cases h);have a2:b<x3.heap.size:=(ae T).1.lt;have b8:x3.heap.size<w1.heap.size:=a7.below.2;generalize bc:x3.heap.size=gL at *
 have J:Hid (LmI b gL many P s lf w (.int .i64 (0:Nat)) w1):=⟨0,List.replicate 19 0,rfl,a0g _,(ae T).2.later (by rw[bc];exact D) (by rw[bc];exact a2),(ae T).1.kept (D.mono a2),a7,by simp,by rw[a1D];exact ae bs,b8⟩;clear a3 Y hi co cp cr T a7 D bs bc b8;go_wp2_with fail
 go_loopw [8] (fun i wr=>LmI b gL many P s lf w i wr) (fun i _=>many-(intOf i).toNat)
 case atStart=>exact ae J
 case round=>
  obtain⟨k,l,rfl,hk,ao,hr,ho,hl,hd,bq⟩:=hrel;clear J;by_cases be:k<many
  .
   have dv:(k:Int)<(many:Int):=by omega
   have Z:k<19:=by have:=(ae HN).2.1;omega
   have d3:=Cv k Z;rw[zG be (ae HN).2.1]at hd;simp only[lbV]at hd;have bz:=af (Ce wr.drew);obtain⟨y,hy⟩:∃y,ai s/2 ^ (P+3*k)%2 ^ 3=y:=⟨_,rfl⟩;have HM:=af (fun W (h:Rdr W b s (P+3*k))=>gF b (P+3*k) 3 s W h (by have:=ae HN;omega) (by omega));rw[hy]at HM hd;have r:=af (a0b ao (a0b hr (a0b ho (a0b hl bq))));have cu:=af hd;have cv:Hid (zC.getD k 0=(bp.getD k 0:Nat)):=zD k Z;have ed:=bq;clear ao hr ho hl bq hk hd hy;generalize bp.getD k 0=o at *
   have eg:(o:Int)<19:=by omega
   have d8:wr.drew.heap.size=wr.heap.size:=rfl;go_wp2_with fail;refine wp_region_held_drew (S:=fun _=>True) ch trivial (fun hS=>?_);refine ag 0 (.slice (some ⟨gL,0,none⟩) 19 19) rfl (by kernel_rfl) (fun _ _ _ h=>h) rfl (fun W V=>by go_simp) hS ?_;refine ag 2 (.int .i64 (k:Nat)) rfl (by kernel_rfl) (fun _ _ _ h=>h) rfl (fun W V=>by go_simp) hS ?_;refine ag 5 (.pointer (some ⟨b,0,none⟩)) rfl (by kernel_rfl) (fun _ _ _ h=>h) rfl (fun W V=>by go_simp) hS ?_;refine ah 1 (by kernel_rfl) rfl fun K hK=>?_;go_simp;go_at_call 253;refine(ae bz).mono ?_;rintro e x4 ⟨rfl,o4,b4⟩;refine Shut.out hK _ _ trivial (fun _=>?_);clear hK K;have cc:wr.heap.size<x4.heap.size:=o4.below.2;have ad:Below wr.heap.size wr x4:=(a0c wr.heap.size wr).drew.trans b4;have k4:aw b wr x4:=(aw.refl b wr).later ad (ae r).2.1.lt;obtain⟨c4,_,_,_⟩:=o4.at zE Z;rw[ae cv]at c4;have b0:Hid (∀W,aw b x4 W->W.cell? ⟨wr.heap.size,k,none⟩=some (.int .i64 (o:Nat))):=fun W h=>by
    have L:=h.2 wr.heap.size cc (by have:=(ae r).2.1.lt;omega);rw[World.cell?_of_block (w:=x4) L (a:=⟨wr.heap.size,k,none⟩)];exact c4
   have z:Hid (aw b w x4/\Rdr x4 b s (P+3*k)/\ay x4 gL (.slice (some ⟨gL,0,none⟩) 19 19) l/\gL<x4.heap.size/\l.length=19):=⟨(ae r).1.trans k4,(ae r).2.1.kept (ad.mono (ae r).2.1.lt),(ae r).2.2.1.later ad (a0a _),by have:=(ae r).2.2.2.2;omega,(ae r).2.2.2.1⟩;clear r bz o4 b4 ad k4 cc;refine dX (S':=fun W=>W.cell? ⟨wr.heap.size,k,none⟩=some (.int .i64 (o:Nat))) (fun _ _=>trivial) _ _ _ _ ?_;have a9:x4.cell? ⟨wr.heap.size,k,none⟩=some (.int .i64 (o:Nat)):=c4;refine wpAnyH_take (i:=3) (v:=.pointer (some ⟨wr.heap.size,k,none⟩)) rfl (by kernel_rfl) (by kernel_rfl) (by kernel_rfl) (fun _ _ _ h=>h) (a0s ⟨by rfl,fun W V=>by go_simp<;>(intro h;omega)⟩) a9 ?_;refine wpAnyH_take (i:=4) (v:=.int .i64 (o:Nat)) rfl (by kernel_rfl) (by kernel_rfl) (by kernel_rfl) (fun _ _ _ h=>h) (a0s ⟨by rfl,fun W V=>by go_simp⟩) a9 ?_;refine ah 6 (by kernel_rfl) rfl fun K hK=>?_;go_simp;go_at_call 209;refine(ae HM x4 (ae z).2.1).mono ?_;rintro e x5 ⟨rfl,r5,k5⟩;refine Shut.out hK _ _ (ae b0 _ k5) (fun ba=>?_);clear hK K;have d2:gL≠b:=by omega
   have o5:=(ae z).2.2.1.keep1' k5 (by omega);obtain⟨c5,f5,_,_⟩:=o5.at (ae z).2.2.2.2 d3;refine wpAnyH_take (i:=7) (v:=.pointer (some ⟨gL,o,none⟩)) rfl (by kernel_rfl) (by kernel_rfl) (by kernel_rfl) (fun _ _ _ h=>h) (a0s ⟨by rfl,fun W V=>by go_simp<;>(intro h;omega)⟩) ba ?_;refine ah 8 (by kernel_rfl) rfl fun K hK=>?_;go_simp;have J:Hid (LmI b gL many P s lf w (.int .i64 (k+1:Nat)) (x5.setCell ⟨gL,o,none⟩ (.int .i64 (y:Nat)))):=by
    refine⟨k+1,l.set o (y:Nat),rfl,be,((ae z).1.trans k5).set dd (ae HN).2.2.1 _,?_,o5.put (ae z).2.2.2.2 _,by rw[a1I];exact(ae z).2.2.2.2,by rw[show P+3*(k+1)=P+3*k+3 by omega];exact ae cu,?_⟩
    . rw[show P+3*(k+1)=P+3*k+3 by omega];exact r5.set d2 _
    . have:=k5.1.size;have:=(ae z).2.2.2.1;simp;omega
   have b3:(x5.setCell ⟨gL,o,none⟩ (.int .i64 (y:Nat))).cell? ⟨wr.heap.size,k,none⟩=some (.int .i64 (o:Nat)):=by
    rw[World.cell?_setCell_other _ _ _ _ (by simp only[ne_eq,a0F];omega)];exact ba
   refine Shut.out hK _ _ b3 (fun _=>?_);clear hK K;refine wpAnyH_done (by kernel_rfl) ?_ _;clear a9 ba b3 k5 r5 o5 b0 HM z c4 c5 f5;generalize x5.setCell ⟨gL,o,none⟩ (.int .i64 (y:Nat))=x6 at *
   go_wp2_with fail;go_roundw
   case rel=>exact ae J
   case measure=>simp[intOf];omega
  .
   have dv:¬ (k:Int)<(many:Int):=by omega
   have d0:k=many:=by omega
   subst d0;have e0:(bp.take k).drop k=[]:=a2P (by rw[a0v];omega);rw[e0]at hd;simp only[lbV]at hd;subst hd;have Q:=af (iZ (some ⟨gL,0,none⟩) 19 19 l wr hl (ho.rowN hl) (by omega));have HC:=af (dH (some ⟨gL,0,none⟩) 19 19 l wr hl (ho.rowN hl) (by omega));have JL:=af ((cf hl (ho.own hl)).mono (b':=b+1) (by omega));have r:=af (a0b ao (a0b hr hl));clear ao hr hl ho hk e0 be;by_cases I:av l=true/\NL<=286/\NB<=30
   .
    obtain⟨ok1,ok2,ok3⟩:=I;rw[ok1]at Q;have cy:=af ok1;obtain⟨d,hd⟩:∃d,lnG (ai s) (8*s.size) l (NL+NB) (P+3*k) []=d:=⟨_,rfl⟩;have M:Hid (gq (ai s) (8*s.size) p=d.bind fun A=>if av (A.1.take NL)=true/\av (A.1.drop NL)=true then some (NL,A.1,A.2)else none):=by
     show _=_;rw[ae HG,hd];by_cases hQ:P+3*k<=8*s.size
     . rw[a0e ⟨hQ,ok1,ok2,ok3⟩]
     . rw[a0d (fun h=>hQ h.1),←hd,zc (by omega)];rfl
    have HD:=af hd;have b1:¬ (286:Int)<(NL:Int):=by omega
    have c7:¬ (30:Int)<(NB:Int):=by omega
    have HK:=af (a0b ok2 ok3);clear ok1 ok2 ok3 hd HG;go_wp2_with fail;refine(ae Q).mono ?_;rintro e x4 ⟨rfl,rfl⟩;clear Q;go_wp2_with fail;refine(ae HC).mono ?_;rintro e x5 ⟨rfl,o5,b5⟩;have bk:(bi l 15).2.length=19:=by rw[bW];exact(ae r).2.2
    have aa:b<x4.heap.size:=(ae r).2.1.lt;have J5:=af (a0b ((ae JL).later b5) ((cf bk (o5.own bk)).mono (b':=b+1) aa));have K5:=af ((ae r).1.later b5 aa);have R5:=af (dC ((ae r).2.1.kept (b5.mono aa)));have t:b<x5.heap.size:=(ae R5).lt;have b2:World.ownsRow (x5.alloc (.cells #[] 3)) x5.heap.size 3 1 (.slice (some ⟨x5.heap.size,0,none⟩) 0 0) 0 []:=a0Y x5 #[] 0 (a0a _) (by unfold maxLen;omega) rfl;have al:Below x5.heap.size x5 (x5.alloc (.cells #[] 3)):=(a0c _ _).alloc (a0a _) _;have J:Hid (LaI b x5.heap.size (NL+NB) s l d x5 (.slice (some ⟨x5.heap.size,0,none⟩) 0 0) (x5.alloc (.cells #[] 3))):=by
     refine⟨[],P+3*k,_,⟨(KI.refl _ _ _).grow al (a0C t),b2,(ae R5).kept (al.mono t),al.size⟩,fun h=>⟨by simp,by simpa using h,ae HD⟩,fun h=>?_⟩;rw[←ae HD,zc (by simpa using h)]
    generalize dq:x4.heap.size=gC at *
    have Hl:=af (ae r).2.2;clear o5 b5 HC JL r R5 b2 al HD bk dq;go_wp2_with fail;generalize x5.alloc (.cells #[] 3)=x6 at *
    obtain⟨N,hN⟩:∃N,NL+NB=N:=⟨_,rfl⟩;rw[hN]at J;have eN:(NL:Int)+(NB:Int)=(N:Int):=by omega
    have bN:(N:Int)<=316:=by have:=ae HK;omega
    go_loopw [10] (fun v wr=>LaI b x5.heap.size N s l d x5 v wr) (fun _ wr=>py b (8*s.size) wr)
    case atStart=>exact ae J
    case round=>
     obtain⟨A,q,f,u,b6,b7⟩:=hrel;clear J;obtain⟨m,hm⟩:∃m,A.length=m:=⟨_,rfl⟩;obtain⟨va,vc,rfl⟩:=u.2.1.formN hm;obtain⟨c2,f2⟩:=u.2.2.1.bad;have ab:=u.2.2.1.lt;have E:=af hm;have c:=af u;have HF:=af (a0b b6 b7);have a1:=af u.2.2.1.far;have F:Hid (KI b w.heap.size w _):=((ae K5).ki _).trans (u.1.less (ae K5).1.size);have HJ:=af (a0b ((ae J5).1.ki u.1 (a0p _)) ((ae J5).2.ki u.1 (a0p _)));clear hm u b6 b7;cases f
     .
      obtain⟨c6,hq,j⟩:=(ae HF).1 rfl;rw[ae E]at c6;by_cases a0:m<N
      .
       have ac:(m:Int)<(N:Int):=by omega
       rw[te hq (by rw[ae E];exact a0)]at j;have C:=af (qe (some ⟨gL,0,none⟩) (some ⟨gC,0,none⟩) 19 19 19 b q l s wr (ae Hl) (ae cy) (by have:=ae HN;omega) (nK (ae c).2.2.1 hq) hq (fun W h=>((ae HJ).1.keep1 h (a0p _)).1) (fun W h=>((ae HJ).2.keep1 h (a0p _)).1));unfold od at C;have Hq:=af hq;clear hq;rcases L:dec l (ai s) (8*s.size) q with _|⟨kk,q1⟩
       .
        rw[L]at C j;have B:Hid (d=none):=j.symm;clear L j;go_wp2_with fail;refine(ae C).mono ?_;rintro e x7 ⟨k7,xx,qq,rfl,r7⟩;have R:=af (zl b x5.heap.size qq m vc va s A xx true x7 (ae E) (by omega) ((ae c).keep1 t k7 r7 |> fun h=>⟨KI.refl _ _ _,h.2.1,h.2.2.1,h.2.2.2⟩) t nofun (ae HN).1);have O:=af ((ae c).1.trans (k7.ki _));clear C k7 r7 c2 f2;go_wp2_with fail;refine(ae R).mono ?_;rintro e x8 ⟨v8,A8,q8,f8,rfl,n8,t8,_⟩;have ht:f8=true:=t8 rfl;subst ht;have J:Hid (LaI b x5.heap.size N s l d x5 v8 x8):=⟨A8,q8,true,⟨(ae O).trans n8.1,n8.2.1,n8.2.2.1,n8.2.2.2⟩,nofun,fun _=>ae B⟩;have a4:Hid (py b (8*s.size) x8<py b (8*s.size) wr):=by
         show _<_;rw[n8.2.2.1.far,ae a1];simp only[a0R,a0Z,a00];omega
        clear n8 t8 R O;go_wp2_with fail;go_roundw
        case rel=>exact ae J
        case measure=>exact ae a4
       .
        rw[L]at C j;have D:=fo L;have U:=af (a0b D.1 D.2.1);have HE:=af j;clear L j D;go_wp2_with fail;refine(ae C).mono ?_;rintro e x7 ⟨k7,rfl,r7⟩;have cs:RF x7 b s q1 false:=by have:=dC r7;rwa[a0i (by have:=ae U;omega)]at this
        have R:=af (zl b x5.heap.size q1 m vc va s A kk false x7 (ae E) (by omega) ((ae c).keep1 t k7 cs |> fun h=>⟨KI.refl _ _ _,h.2.1,h.2.2.1,h.2.2.2⟩) t (fun _=>(ae U).1) (ae HN).1);have O:=af ((ae c).1.trans (k7.ki _));clear C k7 r7 cs c2 f2;go_wp2_with fail;refine(ae R).mono ?_;rintro e x8 ⟨v8,A8,q8,f8,rfl,n8,_,t8⟩;have t8':=t8 rfl;have hE:=ae HE;simp only[a0f]at hE;rw[t8']at hE;have J:Hid (LaI b x5.heap.size N s l d x5 v8 x8):=by
         refine⟨A8,q8,f8,⟨(ae O).trans n8.1,n8.2.1,n8.2.2.1,n8.2.2.2⟩,fun h=>?_,fun h=>?_⟩
         . rw[h]at hE t8';have:=lp t8' (ae U).1;rw[ae E]at this;exact⟨by omega,this.1,hE⟩
         . rw[h]at hE;exact hE.symm
        have a4:Hid (py b (8*s.size) x8<py b (8*s.size) wr):=by
         show _<_;rw[n8.2.2.1.far,ae a1];have:=ae U;have:=ae Hq;cases f8
         . have:=lp t8' (ae U).1;simp only[a0Z,a00];omega
         . simp only[a0R,a0Z,a00];omega
        clear n8 t8 t8' hE R O;go_wp2_with fail;go_roundw
        case rel=>exact ae J
        case measure=>exact ae a4
      .
       have ac:¬ (m:Int)<(N:Int):=by omega
       rw[tf hq (by rw[ae E];exact a0),ae E]at j;by_cases cg:m=N
       .
        subst cg;rw[a0e rfl]at j;have HE:=af j;clear j a0;obtain⟨g,rfl⟩:=(ae c).2.1.somes (by rw[ae E];omega);have d6:m<=vc:=by
         rcases ((ae c).2.1.own (ae E)).2 with⟨e,_⟩|⟨g',d4,eb,e,_,_,L,_⟩
         . cases e
         . simp only[a0L]at e;omega
        have tl:(A.take NL).length=NL:=by rw[a0v,ae E];omega
        have dl:(A.drop NL).length=m-NL:=by rw[a0X,ae E]
        have JA:=af ((cf (ae E) ((ae c).2.1.own (ae E))).mono (b':=b+1) t);have JD:=af ((ae JA).drop NL);rw[a0J]at JD;have x:=af (iZ (some ⟨g,0,none⟩) vc NL (A.take NL) wr tl ((ae JA).take NL).1 (by omega));have G:=af (iZ (some ⟨g,NL,none⟩) (vc-NL) (m-NL) (A.drop NL) wr dl (ae JD).1 (by omega));have d5:(NL:Int)<=(m:Int):=by omega
        clear tl dl;cases k1:av (A.take NL)
        .
         have B:Hid (gq (ai s) (8*s.size) p=none):=by show _=_;rw[ae M,←ae HE];simp only[a0f];rw[a0d (fun h=>by rw[k1]at h;cases h.1)]
         rw[k1]at x;clear k1;go_wp2_with fail;refine(ae x).mono ?_;rintro e x7 ⟨rfl,rfl⟩;clear x;go_wp2
         go_ret2
         exact LmP.badEnd (ae F) (ae c).2.2.1 (ae B)
        .
         rw[k1]at x;cases k2:av (A.drop NL)
         .
          have B:Hid (gq (ai s) (8*s.size) p=none):=by show _=_;rw[ae M,←ae HE];simp only[a0f];rw[a0d (fun h=>by rw[k2]at h;cases h.2)]
          rw[k2]at G;clear k1 k2;go_wp2_with fail;refine(ae x).mono ?_;rintro e x7 ⟨rfl,rfl⟩;clear x;go_wp2_with fail;refine(ae G).mono ?_;rintro e x8 ⟨rfl,rfl⟩;clear G;go_wp2
          go_ret2
          exact LmP.badEnd (ae F) (ae c).2.2.1 (ae B)
         .
          have B:Hid (gq (ai s) (8*s.size) p=some (NL,A,q)):=by show _=_;rw[ae M,←ae HE];simp only[a0f];rw[a0e ⟨k1,k2⟩]
          rw[k2]at G;clear k1 k2;go_wp2_with fail;refine(ae x).mono ?_;rintro e x7 ⟨rfl,rfl⟩;clear x;go_wp2_with fail;refine(ae G).mono ?_;rintro e x8 ⟨rfl,rfl⟩;clear G;go_wp2_with fail
          go_quiet (fail)
          go_wp2
          go_ret2
          have bb:Below x8.heap.size x8 (x8.drewN nq):=below_drewN (a0c _ _) nq;exact⟨(ae F).grow bb (a0C ab),_,_,q,false,rfl,(ae c).2.2.1.kept (bb.mono ab),nofun,fun _=>⟨NL,m-NL,A,_,_,_,_,rfl,rfl,ae B,by rw[ae E];omega,((ae JA).take NL).later bb,(ae JD).later bb⟩⟩
       .
        rw[a0d cg]at j;have d7:¬ (m:Int)=(N:Int):=by omega
        have B:Hid (gq (ai s) (8*s.size) p=none):=by show _=_;rw[ae M,←j];rfl
        clear j;go_wp2
        go_ret2
        exact LmP.badEnd (ae F) (ae c).2.2.1 (ae B)
     .
      have B:Hid (gq (ai s) (8*s.size) p=none):=by show _=_;rw[ae M,(ae HF).2 rfl];rfl
      by_cases a0:m<N
      .
       have ac:(m:Int)<(N:Int):=by omega
       go_wp2
       go_ret2
       exact LmP.badEnd (ae F) (ae c).2.2.1 (ae B)
      .
       have ac:¬ (m:Int)<(N:Int):=by omega
       go_wp2
       go_ret2
       exact LmP.badEnd (ae F) (ae c).2.2.1 (ae B)
   .
    have B:Hid (gq (ai s) (8*s.size) p=none):=by show _=_;rw[ae HG,a0d (fun h=>I h.2)]
    have c8:wr.cell? ⟨b,2,none⟩=some (.bool (decide (8*s.size<P+3*k)))/\wr.frozen? ⟨b,2,none⟩=false:=(dC (ae r).2.1).bad;have ab:=(ae r).2.1.lt;obtain⟨c2,f2⟩:=c8;cases H:av l
    .
     rw[H]at Q;clear H I;go_wp2_with fail;refine(ae Q).mono ?_;rintro e x4 ⟨rfl,rfl⟩;clear Q;go_wp2
     go_ret2
     exact LmP.badEnd ((ae r).1.ki _) (dC (ae r).2.1) (ae B)
    .
     rw[H]at Q;by_cases bd:NL<=286
     .
      have ds:¬ NB<=30:=fun h=>I ⟨H,bd,h⟩;have b1:¬ (286:Int)<(NL:Int):=by omega
      have c7:(30:Int)<(NB:Int):=by omega
      clear H I bd ds;go_wp2_with fail;refine(ae Q).mono ?_;rintro e x4 ⟨rfl,rfl⟩;clear Q;go_wp2
      go_ret2
      exact LmP.badEnd ((ae r).1.ki _) (dC (ae r).2.1) (ae B)
     .
      have b1:(286:Int)<(NL:Int):=by omega
      clear H I bd;go_wp2_with fail;refine(ae Q).mono ?_;rintro e x4 ⟨rfl,rfl⟩;clear Q;go_wp2
      go_ret2
      exact LmP.badEnd ((ae r).1.ki _) (dC (ae r).2.1) (ae B)
theorem Ai(b p n cap:Nat)(a:Option Addr)(s:ByteArray)(T:List UInt8)(d:Option (List UInt8×Nat))(w:World)(y:aN w (b+1) (.slice a n cap) T)(t:RF w b s p true)(A:s.size<=2000)(hd:T.length<=300->d=none)(P:Nat) :
  Calls prog 210 #[.pointer (some ⟨b,0,none⟩),.slice a n cap] w (MP w b P s T d):=by
 obtain⟨p,z,t⟩:=t.cut;have f:Hid (MS w b s w (.slice a n cap) T p true):=⟨KU.refl _ _,y,t⟩;have o:=af (pf b p true s w t z (by omega));have x:=af A;have F:=af hd;clear y t A z hd;go_enter func210,ntmps210;by_cases j:ai s/2 ^ p%2 ^ ((8-p%8)%8)=0
 case' pos=>
  rw[a0y j]at o;clear j;go_wp2_with fail;refine(ae o).mono ?_;rintro e x1 ⟨rfl,q,u⟩;have c:=af ((ae f).keep1 u q);clear u q o f
 case' neg=>
  rw[a0i j]at o;clear j;go_wp2_with fail;refine(ae o).mono ?_;rintro e x0 ⟨rfl,q,u⟩;have k:=af ((ae f).keep1 u q);obtain⟨c0,f0⟩:=q.bad;clear u q o f;have c:=af (ae k).setBad;go_wp2_with fail;generalize x0.setCell ⟨b,2,none⟩ (.bool true)=x1 at *
  clear k c0 f0
 all_goals
  obtain⟨Q1,hQ1⟩:∃Q,p+(8-p%8)%8=Q:=⟨_,rfl⟩;rw[hQ1]at c;have l:=af (hJ b Q1 16 true s _ (ae c).2.2 nofun (by have:=ae x;omega) (by omega));rw[a3g]at l;go_wp2_with fail;refine(ae l).mono ?_;rintro e x2 ⟨rfl,D,B⟩;have m:=af ((ae c).keep1 B D);clear B D l c;have l:=af (hJ b (Q1+16) 16 true s x2 (ae m).2.2 nofun (by have:=ae x;omega) (by omega));obtain⟨X,hX⟩:∃X,ai s/2 ^ Q1%2 ^ 16=X:=⟨_,rfl⟩;obtain⟨Y,hY⟩:∃Y,ai s/2 ^ (Q1+16)%2 ^ 16=Y:=⟨_,rfl⟩;have G:(X:Int)<=65535:=by
   have:ai s/2 ^ Q1%2 ^ 16<65536:=a0W _ (by decide);omega
  rw[a3g,hY]at l;rw[hX];clear hX hY;go_wp2_with fail;refine(ae l).mono ?_;rintro e x3 ⟨rfl,E,C⟩;have g:=af ((ae m).keep1 C E);clear C E l m;obtain⟨c3,f3⟩:=(ae g).2.2.bad;by_cases r:Y=65535-X
  case' neg=>
   have g1:¬ (Y:Int)=65535-(X:Int):=by omega
   have h:=af (ae g).setBad;clear r;go_wp2_with fail;generalize x3.setCell ⟨b,2,none⟩ (.bool true)=XW at *
  case' pos=>
   have g1:(Y:Int)=65535-(X:Int):=by omega
   clear r;rcases (by omega:(300:Int)<(X:Int)∨¬ (300:Int)<(X:Int))with gI|gI
   case' inl=>
    have h:=af (ae g).setBad;go_wp2_with fail;generalize x3.setCell ⟨b,2,none⟩ (.bool true)=XW at *
   case' inr=>
    have h:=g;go_wp2_with fail;generalize x3=XW at *
  all_goals
   have c4:=(ae h).2.2.bad.1
   go_loopw [1,6] (fun v i wr=>v = .slice a n cap/\i = .int .i64 0/\wr=XW) (fun _ _ _=>0)
   case atStart=>exact⟨rfl,rfl,rfl⟩
   case round=>
    obtain⟨rfl,rfl,rfl⟩:=hrel;by_cases H:0<X
    all_goals
     go_wp2;go_ret;exact(ae h).end (MR.bad (ae F))
theorem Ar(b p P n cap nL i nD h:Nat)(a al ad:Option Addr)(s:ByteArray)(T:List UInt8)(L D:List Int)(d:Option (List UInt8×Nat))(w:World)(z:aN w (b+1) (.slice a n cap) T)(m:RF w b s p true)(hd:T.length<=300->d=none)
  (x:L.length=nL) (u:D.length=nD) (okL:av L=true) (okD:av D=true) (jL:ce w (b+1) al L) (jD:ce w (b+1) ad D) :
  Calls prog 211 #[.pointer (some ⟨b,0,none⟩),.slice a n cap,.slice al nL i,.slice ad nD h] w (MP w b P s T d):=by
 have j:=m.lt;have lL:=bQ okL;have lD:=bQ okD;have f:Hid (MS w b s w (.slice a n cap) T p true):=⟨KU.refl _ _,z,m⟩;have o:=af (dH al i nL L w x jL.1 (by omega));have q:=af (fun W (B:Below w.heap.size w W)=>dH ad h nD D W u (jD.later B).1 (by omega));have A:=af hd;clear z m x u okL okD jL jD hd;go_enter func211,ntmps211;go_wp2_with fail;refine(ae o).mono ?_;rintro e x1 ⟨rfl,o1,r⟩;have c:=af r;clear o1 r o;go_wp2_with fail;refine(ae q x1 (ae c)).mono ?_;rintro e x2 ⟨rfl,o2,t⟩;have k:Below w.heap.size w x2:=(ae c).trans (t.mono (ae c).size);have g:MS w b s x2 (.slice a n cap) T p true:=⟨(ae f).1.later k j,(ae f).2.1.later k (a0a _),(ae f).2.2.kept (k.mono j)⟩;have l:=af g;obtain⟨c2,f2⟩:=g.2.2.bad;have y:=g.lt;clear o2 t q k g f c;go_wp2_with fail
 go_loopw [1,11] (fun v _ wr=>v = .slice a n cap/\wr=x2) (fun _ _ _=>0)
 case atStart=>exact⟨rfl,rfl⟩
 case round=>
  obtain⟨rfl,rfl⟩:=hrel;go_wp2;go_ret;exact((ae l).setBad).end (MR.bad (ae A))
def oP(V sz p:Nat)(T:List UInt8):Option (List UInt8×Nat):=(rdN V sz p 1).bind fun a=>(rdN V sz a.2 2).bind fun k=>fi V sz k.1 k.2 T
theorem Gt(h:p+1+2<=sz):oP V sz p T=fi V sz (V/2 ^ (p+1)%2 ^ 2) (p+1+2) T:=by
 unfold oP;rw[ck (by omega)];simp only[a0f];rw[ck h];rfl
theorem Kr(h:¬ p+1+2<=sz):oP V sz p T=none:=by
 unfold oP;by_cases a:p+1<=sz
 . rw[ck a];simp only[a0f];rw[eA h];rfl
 . rw[eA a];rfl
theorem FC(h:¬ p+1+2<=8*s.size):ai s/2 ^ (p+1)%2 ^ 2<2:=by
 have a:=mD s (p+2) (by omega);rw[show p+2=p+1+1 by omega,a1s,←a10]at a;generalize ai s/2 ^ (p+1)=x at *
 omega
theorem MR.from{b:Nat}(h:MR sz p T d T' q f)(c:b<=p):MR sz b T d T' q f:=⟨fun a=>⟨(h.1 a).1,a0G c (h.1 a).2.1,(h.1 a).2.2⟩,h.2⟩
def PmP(w:World)(b p:Nat)(s:ByteArray)(T:List UInt8)(l:Bool)(d:Option (List UInt8×Nat))(e:Ending)(w':World):Prop:=
 KU b w w'/\∃v T' q f,e = .returned (.tuple #[v,.bool l])/\aN w' (b+1) v T'/\RF w' b s q f/\MR (8*s.size) p T d T' q f
theorem MP.part{a:Nat}{l:Bool}(h:MP x b p s T d (.returned v) x')(j:KU b w x)(k:a<=p):PmP w b a s T l d (.returned (.tuple #[v,.bool l])) x':=by
 obtain⟨c,v',T',q,f,e,h2,g,i⟩:=h;simp only[Ending.returned.injEq]at e;subst e;exact⟨j.trans c,v,T',q,f,rfl,h2,g,i.from k⟩
theorem Aj(b p n cap:Nat)(a:Option Addr)(s:ByteArray)(T:List UInt8)(d:Option (List UInt8×Nat))(w:World)(j:T.length=n)(f:aN w (b+1) (.slice a n cap) T)(g:Rdr w b s p)(h:s.size<=2000)(i:n<=300+p)(hd:d=if p<=8*s.size then dk (ai s) (8*s.size) p T else none) :
  Calls prog 210 #[.pointer (some ⟨b,0,none⟩),.slice a n cap] w (MP w b p s T d):=by
 by_cases c:p<=8*s.size
 . rw[hd,a0e c];exact Di b p n cap a s T w j f g c h i
 . have e:=dC g;rw[a0y (by omega)]at e;exact Ai b p n cap a s T d w f e h (fun _=>by rw[hd,a0d c]) p
theorem qR(b p n cap nL e nD c:Nat)(a al ad:Option Addr)(s:ByteArray)(T:List UInt8)(L D:List Int)(d:Option (List UInt8×Nat))(w:World)(m:T.length=n)(j:aN w (b+1) (.slice a n cap) T)(k:Rdr w b s p)(q:s.size<=2000)(o:n<=100000)(hd:d=if p<=8*s.size then gp (ai s) (8*s.size) L D p T else none)
  (h:L.length=nL) (g:D.length=nD) (okL:av L=true) (okD:av D=true) (jL:ce w (b+1) al L) (jD:ce w (b+1) ad D) :
  Calls prog 211 #[.pointer (some ⟨b,0,none⟩),.slice a n cap,.slice al nL e,.slice ad nD c] w (MP w b p s T d):=by
 by_cases f:p<=8*s.size
 .
  by_cases i:n<=300
  . rw[hd,a0e f];exact Au b p n cap nL e nD c a al ad s T L D w m j k f q i h g okL okD jL jD
  . exact As b p n cap nL e nD c a al ad s T L D d w m j k f (by omega) o h g okL okD jL jD
 . have l:=dC k;rw[a0y (by omega)]at l;exact Ar b p p n cap nL e nD c a al ad s T L D d w j l (fun _=>by rw[hd,a0d f]) h g okL okD jL jD
theorem aN.ki{base:Nat}(h:aN w base v T)(f:KI b w.heap.size w x)(hb:b<base):aN x base v T:=by
 refine⟨h.1,?_⟩;rcases h.2 with i|⟨g,cap,d,rfl,e,a,rest⟩
 . exact .inl i
 . have c:=(Array.getElem?_eq_some_iff.1 a).1;refine .inr ⟨g,cap,d,rfl,e,?_,rest⟩;rw[f.2 g c (by omega) c];exact a
theorem Gu(b p n cap:Nat)(a:Option Addr)(s:ByteArray)(T:List UInt8)(w:World)(hn:T.length=n)(ho:aN w (b+1) (.slice a n cap) T)(hr:Rdr w b s p)(hp:p<=8*s.size)(hs:s.size<=2000)(hT:n<=300+p) :
  Calls prog 175 #[.pointer (some ⟨b,0,none⟩),.slice a n cap] w (PmP w b (p+1+2) s T (decide (((ai s/2 ^ p%2:Nat):Int)=1)) (oP (ai s) (8*s.size) p T)):=by
 obtain⟨d,hd⟩:∃d,oP (ai s) (8*s.size) p T=d:=⟨_,rfl⟩;rw[hd];obtain⟨X,hX⟩:∃X,ai s/2 ^ p%2=X:=⟨_,rfl⟩;obtain⟨K,hK⟩:∃K,ai s/2 ^ (p+1)%2 ^ 2=K:=⟨_,rfl⟩;have aa:K<4:=by rw[←hK];exact a0W _ (by decide)
 have j:Hid (d=if p+1+2<=8*s.size then fi (ai s) (8*s.size) K (p+1+2) T else none):=by
  show d=_;rw[←hd];by_cases I:p+1+2<=8*s.size
  . rw[a0e I,Gt I,hK]
  . rw[a0d I,Kr I]
 have M:Hid (¬ p+1+2<=8*s.size->K<2):=fun h=>by rw[←hK];exact FC h
 have N1:=af (kS b p s w hr (by omega));have N2:=af (fun W (h:Rdr W b s (p+1))=>gF b (p+1) 2 s W h (by omega) (by omega));rw[hX]at N1;rw[hK]at N2;rw[hX];have m:Hid (T.length=n/\s.size<=2000/\n<=300+p/\p<=8*s.size):=⟨hn,hs,hT,hp⟩;have Y:=af ho;have ab:(n:Int)<=100000:=by omega
 clear hn ho hr hp hs hT hd hX hK;go_enter func175,ntmps175;go_wp2_with fail;refine(ae N1).mono ?_;rintro e x1 ⟨rfl,r1,k1⟩;have u:=af (a0b r1 k1);clear r1 k1 N1;go_wp2_with fail;refine(ae N2 x1 (ae u).1).mono ?_;rintro e x2 ⟨rfl,r2,k2⟩;have c:=af (a0b r2 ((ae u).2.trans k2));have i:=af ((ae Y).keep1 (ae c).2 (a0p _));clear r2 k2 N2 u Y;generalize hP:p+1+2=P at *
 have l:=(ae c).1.lt;have R:K=0∨K=1∨K=2∨K=3:=by omega
 rcases R with rfl|rfl|rfl|rfl
 .
  have o:=af (Aj b P n cap a s T d x2 (ae m).1 (ae i) (ae c).1 (ae m).2.1 (by have:=ae m;omega) (ae j));go_wp2_with fail;refine(ae o).mono ?_;rintro e x3 k;obtain⟨v,rfl⟩:∃v,e = .returned v:=⟨_,k.2.choose_spec.choose_spec.choose_spec.choose_spec.1⟩;have E:=af k;clear k o;go_wp2
  go_ret2
  exact(ae E).part (ae c).2.ku (a0a _)
 .
  have B:=af (qC x2);go_wp2_with fail;refine(ae B).mono ?_;rintro e x3 ⟨v3,rfl,o3,H⟩;have l3:(bT 288).length=288:=by kernel_rfl
  obtain⟨a3,c3,rfl⟩:=o3.formN l3;have J3:=af ((cf l3 (o3.own l3)).mono (b':=b+1) l);have C:=af (a0b ((ae c).1.kept (H.mono l)) ((ae c).2.later H l));have O3:=af ((ae i).later H (a0a _));have g:=(ae C).1.lt;have V:=af (qB x3);clear B o3 H c i l3;go_wp2_with fail;refine(ae V).mono ?_;rintro e x4 ⟨v4,rfl,o4,F⟩;have l4:(List.replicate 32 (5:Int)).length=32:=by simp
  obtain⟨a4,c4,rfl⟩:=o4.formN l4;have o:=af (qR b P n cap 288 c3 32 c4 a a3 a4 s T (bT 288) (List.replicate 32 5) d x4 (ae m).1 ((ae O3).later F (a0a _)) ((ae C).1.kept (F.mono g)) (ae m).2.1 (by have:=ae m;omega) (ae j) (by kernel_rfl) l4 DX yk ((ae J3).later F) ((cf l4 (o4.own l4)).mono (b':=b+1) g));have L:=af ((ae C).2.later F g);clear V o4 F C O3 J3 l4;go_wp2_with fail;refine(ae o).mono ?_;rintro e x5 k;obtain⟨v,rfl⟩:∃v,e = .returned v:=⟨_,k.2.choose_spec.choose_spec.choose_spec.choose_spec.1⟩;have E:=af k;clear k o;go_wp2
  go_ret2
  exact(ae E).part (ae L).ku (a0a _)
 .
  have y:P<=8*s.size:=by
   by_cases h:P<=8*s.size
   . exact h
   . have:=ae M h;omega
  have B:=af (FY b P s x2 (ae c).1 y (ae m).2.1);have r:Hid (d=(gq (ai s) (8*s.size) P).bind fun x=>gp (ai s) (8*s.size) (x.2.1.take x.1) (x.2.1.drop x.1) x.2.2 T):=by
   show d=_;rw[ae j,a0e y,←vu];rfl
  clear j y;go_wp2_with fail;refine(ae B).mono ?_;rintro e x3 ⟨J,va,vb,q,f,rfl,D,U,S⟩;have O3:=af ((ae i).ki J (a0p _));have Z:=af ((ae c).2.ku.trans J.ku);obtain⟨c3,f3⟩:=D.bad;have g:=D.lt;cases f
  .
   obtain⟨nL,nD,A,al,cl,ad,cd,rfl,rfl,Q,hA,jL,jD⟩:=S rfl;obtain⟨g1,g2,g3,g4⟩:=JB Q;have G:d=if q<=8*s.size then gp (ai s) (8*s.size) (A.take nL) (A.drop nL) q T else none:=by rw[ae r,Q,a0e g1];rfl
   have o:=af (qR b q n cap nL cl nD cd a al ad s T (A.take nL) (A.drop nL) d x3 (ae m).1 (ae O3) (nK D g1) (ae m).2.1 (by have:=ae m;omega) G (by rw[a0v];omega) (by rw[a0X];omega) g3 g4 jL jD);have N:=af g2;clear B J D U S Q hA jL jD g1 g2 g3 g4 G;go_wp2_with fail;refine(ae o).mono ?_;rintro e x5 k;obtain⟨v,rfl⟩:∃v,e = .returned v:=⟨_,k.2.choose_spec.choose_spec.choose_spec.choose_spec.1⟩;have E:=af k;clear k o;go_wp2
   go_ret2
   exact(ae E).part (ae Z) (ae N)
  .
   have O:Hid (d=none):=by show d=none;rw[ae r,U rfl];rfl
   have C:=af D;clear B J D U S;go_wp2
   go_ret2
   exact⟨ae Z,_,T,q,true,rfl,ae O3,ae C,MR.bad (fun _=>ae O)⟩
 .
  have O:Hid (d=none):=by
   show d=none;rw[ae j]
   split
   . unfold fi;rw[a0d (by decide),a0d (by decide),a0d (by decide)]
   . rfl
  have z:MS w b s x2 (.slice a n cap) T P (decide (8*s.size<P)):=⟨(ae c).2.ku,ae i,dC (ae c).1⟩;obtain⟨c2,f2⟩:=z.2.2.bad;have t:=af z;clear z;go_wp2
  go_ret2
  exact⟨(ae t).setBad.1,_,T,P,true,rfl,(ae t).setBad.2.1,(ae t).setBad.2.2,MR.bad (fun _=>ae O)⟩
end Go.Proofs.YtlpmnnjlmjffpaaGreatDoor
