/- Texts. -/
import Derived.Test.YtckocaibjciplaaGreatDoorM20
import Derived.Test.YtckocaibjciplaaGreatDoorM15
import Derived.Test.YtckocaibjciplaaGreatDoorM25
import Derived.Test.YtckocaibjciplaaGreatDoorM21
set_option linter.all false
set_option maxHeartbeats 1600000
namespace Go.Proofs.YtckocaibjciplaaGreatDoor
open Go.Proofs.Tryz
open Go.RowKit Corb
variable {a:Option Addr}{b n:Nat}{l:List Int}{w w':World}
def jc(w:World)(b:Nat)(a:Option Addr)(l:List Int):Prop:=br w a l/\(0<l.length->∀x,a=some x->x.block≠b/\∀cur fr,w.heap[x.block]?≠some (.cells cur 5 fr))
def jc.keep(h:jc w b a l)(k:bZ b w w'):jc w' b a l:=by
 by_cases c:0<l.length
 .
  obtain⟨g,o,e,j,m⟩:=h.1 c;obtain⟨f,h2⟩:=h.2 c _ e;have hb:=k.2 g j f h2;refine⟨fun _=>⟨g,o,e,a0l j k.1,fun i n=>?_⟩,fun _ x ex=>?_⟩
  . rw[←m i n];exact World.cell?_of_block (w:=w) hb
  .
   have:x=⟨g,o,none⟩:=by rw[ex]at e;exact a1s e
   subst this;exact⟨f,fun d fr=>by rw[hb];exact h2 d fr⟩
 . exact⟨fun h=>absurd h c,fun h=>absurd h c⟩
def jc.below(h:jc w b a l)(hb:Below w.heap.size w w'):jc w' b a l:=h.keep ⟨hb.size,fun k c _ _=>hb.block k c⟩
def MU{base cap:Nat}(k:l.length=n)(h:w.ownsRow base 3 1 (.slice a n cap) n (l.map (Value.int .i64)))(hb:b<base):jc w b a l:=by
 refine⟨Cq k h,fun m x ex=>?_⟩;subst ex;rcases h.2 with⟨e,_⟩|⟨g,c,f,e,i,j,_⟩
 . cases e
 . simp only[a0L,a0j]at e;obtain⟨rfl,_⟩:=e;refine⟨by show g≠b;omega,fun d fr=>?_⟩;show w.heap[g]?≠_;rw[j];intro e;cases e
def fE{base cap:Nat}(c:l.length=n)(h:an w base (.slice a n cap) l)(hb:b<base):jc w b a l:=MU c (h.own c) hb
def bf(p:Nat×Nat)(l:List (Int×Int)):Nat×Nat:=iD p (mU l)
def bn(p:Nat×Nat)(l m:List (Int×Int)):bf p (l++m)=bf (bf p l) m:=by
 unfold bf mU;rw[a0J,mZ]
def pcM(l:List Int)(k:Nat):Int×Int:=((rv (l.getD k 0).toNat ((aV l 15).2.getD k 0).toNat:Nat),l.getD k 0)
def Out.kept{V m:Nat}(h:Out w b V m)(hb:Below w.heap.size w w'):Out w' b V m:=by
 obtain⟨c,v,a,e⟩:=h;refine⟨c,v,Three.kept a (hb.mono a.2.2.2.2.2.2),?_⟩;exact a1M e (row:=none) ⟨hb.os,hb.tape,hb.output,hb.size,fun k d _=>hb.block k d⟩ (by
  cases f:v.ownBlock with
  | none=>exact .inl rfl
  | some k=>exact .inr (by simp))
def Out.lt{V m:Nat}(h:Out w b V m):b<w.heap.size:=by
 obtain⟨_,_,a,_⟩:=h;exact a.2.2.2.2.2.2
def j7(w:World)(b:Nat)(p:Nat×Nat):Prop:=Out w b p.1 p.2
def fo(b:Nat)(p:Nat×Nat)(num bits:Int)(w:World)(h:j7 w b p)(c:pOk num bits=true)(k:p.2<=100000) :
  Calls prog 184 #[.pointer b,num,bits] w fun e w'=>e = .returned (.tuple #[])/\j7 w' b (bf p [(num,bits)])/\KB b w w':=by
 obtain⟨⟨f,g⟩,n0,n1⟩:=aR.1 c;have a:num.toNat<p2 bits.toNat:=by
  have:(num.toNat:Int)<((p2 bits.toNat:Nat):Int):=by rw[a3e n0];exact n1
  omega
 have i:p2 bits.toNat<=p2 16:=a0Q (by omega) (by omega);have e16:p2 16=65536:=by decide
 refine(M8 b p.1 p.2 num bits w h n0 (by omega) f g k).mono ?_;rintro e w'⟨rfl,d,j⟩;refine⟨rfl,?_,j⟩;rw[a1d a]at d;exact d
def oX{k:Nat}(h:0<=l.getD k 0/\l.getD k 0<=15):pOk (pcM l k).1 (pcM l k).2=true:=by
 refine aR.2 ⟨⟨h.1,by show l.getD k 0<=16;omega⟩,by show(0:Int)<=((_:Nat):Int);omega,?_⟩;show((rv (l.getD k 0).toNat ((aV l 15).2.getD k 0).toNat:Nat):Int)<((p2 (l.getD k 0).toNat:Nat):Int);have:=Nl (l.getD k 0).toNat ((aV l 15).2.getD k 0).toNat
 unfold p2;omega
def qt(b:Nat)(p:Nat×Nat)(a ac:Option Addr)(cap n u k:Nat)(l:List Int)(w:World)(v:j7 w b p)(q:l.length=n)(h:br w a l)(g:br w ac (aV l 15).2)(y:k<n)(z:n<=300)(r:0<=l.getD k 0/\l.getD k 0<=15)(x:0<=(aV l 15).2.getD k 0/\(aV l 15).2.getD k 0<65536)(A:p.2<=100000) :
  Calls prog 222 #[.pointer b,.slice a n cap,.slice ac n u,.int .i64 (k:Int)] w fun e w'=>e = .returned (.tuple #[])/\j7 w' b (bf p [pcM l k])/\KB b w w':=by
 have HP:=af (Bkx.l3Piece_any a ac cap n u k l (aV l 15).2 w q ((bz l 15).trans q) h g y z r x);have j:=af (oX r);have f:Hid (pcM l k=(((rv (l.getD k 0).toNat ((aV l 15).2.getD k 0).toNat:Nat):Int),l.getD k 0)):=rfl;rw[ae f]at j;generalize pcM l k=PC at *
 generalize rv (l.getD k 0).toNat ((aV l 15).2.getD k 0).toNat=R at *
 generalize l.getD k 0=Y at *
 have s:=af v;clear v h g r x q;go_enter func222,ntmps222;go_wp2_with fail;refine HP.mono ?_;rintro e x1⟨rfl,c⟩;have d:Below w.heap.size w (x1.alloc (.cells #[R,Y] 159)):=c.alloc c.size _;have o:=af (Out.kept s d);have m:=af ((KB.refl b w).below d (a0s (Out.lt s)));clear c d HP;go_wp2_with fail;refine(fo b p (R:Nat) Y _ o j A).mono ?_;rintro e x2⟨rfl,h2,i⟩;have t:=af (a0b h2 (m.trans i));clear h2 i;go_wp2
 go_end0
 exact⟨rfl,by rw[ae f];exact t.1,t.2⟩
def jw(e:En):List Value:=[.string e.n,.int .i64 e.y,.int .i64 e.mo,.int .i64 e.d,.int .i64 e.h,.int .i64 e.mi,.int .i64 e.s,.string e.t]
def Lp(e:En):(jw e).length=8:=rfl
def iS(e:En):∀u∈jw e,u.oneCell'=true:=by
 intro u a;simp only[jw,a0Z,a1x,a1q]at a;rcases a with rfl|rfl|rfl|rfl|rfl|rfl|rfl|rfl<;>rfl
abbrev fS(w:World)(base:Nat)(v:Value)(l:List En):Prop:=cb 34 8 jw w base v l
def Qk{g o:Nat}{e:En}(h:∀j,j<8->w.cell? ⟨g,o+j,none⟩=(jw e)[j]?):Qq w g o e:=
 ⟨h 0 (by omega),h 1 (by omega),h 2 (by omega),h 3 (by omega),h 4 (by omega),h 5 (by omega),h 6 (by omega),h 7 (by omega)⟩
def Gg{base g cap:Nat}{l:List En}(c:l.length=n)(h:fS w base (.slice g n cap) l)(i:Nat)(a:i<n):Qq w g (i*8) (l.getD i default):=
 Qk fun j b=>(cb.at Lp default c h i j a b).1
def gQ{base cap:Nat}{l:List En}(c:l.length=n)(h:fS w base (.slice a n cap) l):kF w a l:=by
 intro b;obtain⟨g,rfl⟩:=h.somes b;refine⟨g,0,rfl,h.below.2,fun i d=>?_⟩;rw[a0H];exact Gg c h i (by omega)
def Tryz.infoEnt:(prog.info? 34).map (fun i=>(i.zero,i.size,i.bytes))=some (some (.agg ()),8,80):=by kernel_rfl
