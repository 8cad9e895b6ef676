/- Of what the proof is made: 2 texts, one behind the other. -/
import Derived.Test.YtchidddpplangaaGreatDoorM20
import Derived.Test.YtchidddpplangaaGreatDoorM12
import Derived.Test.YtchidddpplangaaGreatDoorM13
import Derived.Test.YtchidddpplangaaGreatDoorM25
import Derived.Test.YtchidddpplangaaGreatDoorM9
import Derived.Test.YtchidddpplangaaGreatDoorM21
set_option linter.unusedSimpArgs false
set_option linter.unusedVariables false
set_option maxHeartbeats 1600000
namespace Go.Proofs.YtchidddpplangaaGreatDoor
open Go.Proofs.Tryz
open Go.RowKit Corb
variable {a:Option Addr}{b g n:Nat}{l:List Int}{w w':World}
def iM(w:World)(b:Nat)(a:Option Addr)(l:List Int):Prop:=aZ w a l/\(0<l.length->∀x,a=some x->x.block≠b/\∀cur fr,w.heap[x.block]?≠some (.cells cur 5 fr))
theorem iM.keep(h:iM w b a l)(k:bV b w w'):iM w' b a l:=by
 by_cases c:0<l.length
 .
  obtain⟨g,o,e,j,m⟩:=h.1 c;obtain⟨f,h2⟩:=h.2 c _ e;have hb:=k.2 g j f h2;refine⟨fun _=>⟨g,o,e,a0m j k.1,fun i n=>?_⟩,fun _ x ex=>?_⟩
  . rw[←m i n];exact World.cell?_of_block (w:=w) hb
  .
   have:x=⟨g,o,none⟩:=by rw[ex]at e;exact a1I e
   subst this;exact⟨f,fun d fr=>by rw[hb];exact h2 d fr⟩
 . exact⟨fun h=>absurd h c,fun h=>absurd h c⟩
theorem iM.below(h:iM w b a l)(hb:Below w.heap.size w w'):iM w' b a l:=h.keep ⟨hb.size,fun k c _ _=>hb.block k c⟩
theorem KF{base cap:Nat}(k:l.length=n)(h:w.ownsRow base 3 1 (.slice a n cap) n (l.map (Value.int .i64)))(hb:b<base):iM w b a l:=by
 refine⟨AW k h,fun m x ex=>?_⟩;subst ex;rcases h.2 with⟨e,_⟩|⟨g,c,f,e,i,j,_⟩
 . cases e
 . simp only[a0J,a0l]at e;obtain⟨rfl,_⟩:=e;refine⟨by show g≠b;omega,fun d fr=>?_⟩;show w.heap[g]?≠_;rw[j];intro e;cases e
theorem ft{base cap:Nat}(c:l.length=n)(h:am w base (.slice a n cap) l)(hb:b<base):iM w b a l:=KF c (h.own c) hb
def aX(p:Nat×Nat)(l:List (Int×Int)):Nat×Nat:=iR p (ot l)
theorem bj(p:Nat×Nat)(l m:List (Int×Int)):aX p (l++m)=aX (aX p l) m:=by
 unfold aX ot;rw[a0I,mz]
def pcM(l:List Int)(k:Nat):Int×Int:=((rv (l.getD k 0).toNat ((aV l 15).2.getD k 0).toNat:Nat),l.getD k 0)
theorem Out.kept{V m:Nat}(h:Out w b V m)(hb:Below w.heap.size w w'):Out w' b V m:=by
 obtain⟨c,v,a,e⟩:=h;refine⟨c,v,Three.kept a (hb.mono a.2.2.2.2.2.2),?_⟩;exact a1N e (row:=none) ⟨hb.os,hb.tape,hb.output,hb.size,fun k d _=>hb.block k d⟩ (by
  cases f:v.ownBlock with
  | none=>exact .inl rfl
  | some k=>exact .inr (by simp))
theorem Out.lt{V m:Nat}(h:Out w b V m):b<w.heap.size:=by
 obtain⟨_,_,a,_⟩:=h;exact a.2.2.2.2.2.2
def jI(w:World)(b:Nat)(p:Nat×Nat):Prop:=Out w b p.1 p.2
theorem fg(b:Nat)(p:Nat×Nat)(num bits:Int)(w:World)(h:jI w b p)(c:pOk num bits=true)(k:p.2<=100000) :
  Calls prog 119 #[.pointer (some ⟨b,0,none⟩),.int .i64 num,.int .i64 bits] w fun e w'=>e = .returned (.tuple #[])/\jI w' b (aX p [(num,bits)])/\KB b w w':=by
 obtain⟨⟨f,g⟩,n0,n1⟩:=aS.1 c;have a:num.toNat<p2 bits.toNat:=by
  have:(num.toNat:Int)<((p2 bits.toNat:Nat):Int):=by rw[Int.toNat_of_nonneg n0];exact n1
  omega
 have i:p2 bits.toNat<=p2 16:=a0N (by omega) (by omega);have e16:p2 16=65536:=by decide
 refine(KS b p.1 p.2 num bits w h n0 (by omega) f g k).mono ?_;rintro e w' ⟨rfl,d,j⟩;refine⟨rfl,?_,j⟩;rw[a1m a]at d;exact d
theorem ox{k:Nat}(h:0<=l.getD k 0/\l.getD k 0<=15):pOk (pcM l k).1 (pcM l k).2=true:=by
 refine aS.2 ⟨⟨h.1,by show l.getD k 0<=16;omega⟩,by show(0:Int)<=((_:Nat):Int);omega,?_⟩;show((rv (l.getD k 0).toNat ((aV l 15).2.getD k 0).toNat:Nat):Int)<((p2 (l.getD k 0).toNat:Nat):Int);have:=K0 (l.getD k 0).toNat ((aV l 15).2.getD k 0).toNat
 unfold p2;omega
theorem pH(b:Nat)(p:Nat×Nat)(a ac:Option Addr)(cap n u k:Nat)(l:List Int)(w:World)(v:jI w b p)(q:l.length=n)(h:aZ w a l)(g:aZ w ac (aV l 15).2)(y:k<n)(z:n<=300)(r:0<=l.getD k 0/\l.getD k 0<=15)(x:0<=(aV l 15).2.getD k 0/\(aV l 15).2.getD k 0<65536)(A:p.2<=100000) :
  Calls prog 168 #[.pointer (some ⟨b,0,none⟩),.slice a n cap,.slice ac n u,.int .i64 (k:Int)] w fun e w'=>e = .returned (.tuple #[])/\jI w' b (aX p [pcM l k])/\KB b w w':=by
 have HP:=ae (Bkx.l3Piece_any a ac cap n u k l (aV l 15).2 w q ((bC l 15).trans q) h g y z r x);have j:=ae (ox r);have f:Hid (pcM l k=(((rv (l.getD k 0).toNat ((aV l 15).2.getD k 0).toNat:Nat):Int),l.getD k 0)):=rfl;rw[ab f]at j;generalize pcM l k=PC at *
 generalize rv (l.getD k 0).toNat ((aV l 15).2.getD k 0).toNat=R at *
 generalize l.getD k 0=Y at *
 have s:=ae v;clear v h g r x q;go_enter func168,ntmps168;go_wp2_with fail;refine(ab HP).mono ?_;rintro e x1 ⟨rfl,c⟩;have d:Below w.heap.size w (x1.alloc (.cells #[.int .i64 (R:Nat),.int .i64 Y] 185)):=c.alloc c.size _;have o:=ae (Out.kept (ab s) d);have m:=ae ((KB.refl b w).below d (a0z (Out.lt (ab s))));clear c d HP;go_wp2_with fail;refine(fg b p (R:Nat) Y _ (ab o) (ab j) A).mono ?_;rintro e x2 ⟨rfl,h2,i⟩;have t:=ae (a0b h2 ((ab m).trans i));clear h2 i;go_wp2
 go_end0
 exact⟨rfl,by rw[ab f];exact(ab t).1,(ab t).2⟩
def fs(e:En):List Value:=[.string e.n,.int .i64 e.y,.int .i64 e.mo,.int .i64 e.d,.int .i64 e.h,.int .i64 e.mi,.int .i64 e.s,.string e.t]
theorem bQ(e:En):(fs e).length=8:=rfl
theorem oT(e:En):∀u∈fs e,u.oneCell'=true:=by
 intro u a;simp only[fs,a0U,a1C,a1q]at a;rcases a with rfl|rfl|rfl|rfl|rfl|rfl|rfl|rfl<;>rfl
abbrev gQ(w:World)(base:Nat)(v:Value)(l:List En):Prop:=bX 31 8 fs w base v l
theorem OG{o:Nat}{e:En}(h:∀j,j<8->w.cell? ⟨g,o+j,none⟩=(fs e)[j]?):NA w g o e:=
 ⟨h 0 (by omega),h 1 (by omega),h 2 (by omega),h 3 (by omega),h 4 (by omega),h 5 (by omega),h 6 (by omega),h 7 (by omega)⟩
theorem sr{base cap:Nat}{l:List En}(c:l.length=n)(h:gQ w base (.slice (some ⟨g,0,none⟩) n cap) l)(i:Nat)(a:i<n):NA w g (i*8) (l.getD i default):=
 OG fun j b=>(bX.at bQ default c h i j a b).1
theorem vP{base cap:Nat}{l:List En}(b:l.length=n)(h:gQ w base (.slice (some ⟨g,0,none⟩) n cap) l)(i:Nat)(a:i<n) :
  w.frozen? ⟨g,i*8,none⟩=false/\w.frozen? ⟨g,i*8+1,none⟩=false/\w.frozen? ⟨g,i*8+2,none⟩=false/\w.frozen? ⟨g,i*8+3,none⟩=false/\w.frozen? ⟨g,i*8+4,none⟩=false/\w.frozen? ⟨g,i*8+5,none⟩=false/\w.frozen? ⟨g,i*8+6,none⟩=false/\w.frozen? ⟨g,i*8+7,none⟩=false:=
 ⟨(bX.at bQ default b h i 0 a (by omega)).2,(bX.at bQ default b h i 1 a (by omega)).2,(bX.at bQ default b h i 2 a (by omega)).2,(bX.at bQ default b h i 3 a (by omega)).2,(bX.at bQ default b h i 4 a (by omega)).2,(bX.at bQ default b h i 5 a (by omega)).2,(bX.at bQ default b h i 6 a (by omega)).2,(bX.at bQ default b h i 7 a (by omega)).2⟩
theorem iC{base cap:Nat}{l:List En}(c:l.length=n)(h:gQ w base (.slice a n cap) l):kj w a l:=by
 intro b;obtain⟨g,rfl⟩:=h.somes b;refine⟨g,0,rfl,h.below.2,fun i d=>?_⟩;rw[a0G];exact sr c h i (by omega)
theorem Tryz.infoEnt:(prog.info? 31).map (fun i=>(i.zero,i.size,i.bytes))=some (some (.agg #[.string ⟨#[]⟩,.int .i64 0,.int .i64 0,.int .i64 0,.int .i64 0,.int .i64 0,.int .i64 0,.string ⟨#[]⟩]),8,80):=by kernel_rfl
end Go.Proofs.YtchidddpplangaaGreatDoor
