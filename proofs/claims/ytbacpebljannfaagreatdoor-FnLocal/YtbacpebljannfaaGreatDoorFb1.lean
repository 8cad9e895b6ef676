/- dG of codes, by what they are made of; both books of packed texts as one struct. -/
import Derived.Test.YtbacpebljannfaaGreatDoorM11
import Derived.Test.YtbacpebljannfaaGreatDoorRp1
import Derived.Test.YtbacpebljannfaaGreatDoorM12
import Derived.Test.YtbacpebljannfaaGreatDoorM7
import Derived.Laws.Tables
set_option linter.unusedSimpArgs false
namespace Go.Proofs.YtbacpebljannfaaGreatDoor
open Go.RowKit Corb
theorem xS{w:World}{base n cap:Nat}{e:TypeId}{a:Option Addr}{l:List Int}(hn:l.length=n)(h:w.ownsRow base e 1 (.slice a n cap) n (l.map (Value.int .i64))):be w a l:=by
 subst hn;intro h0;rcases h.2 with⟨_,h1⟩|⟨g,cap',cur,e,hb,hg,hr⟩
 · omega
 · simp only[a0N]at e;obtain⟨rfl,_,rfl⟩:=e;refine⟨g,0,rfl,(Array.getElem?_eq_some_iff.1 hg).1,fun i hi=>?_⟩;have c1:=a04 h i (by omega);rw[a0J,c1];simp[List.getD,hi]
def dW(w:World)(base:Nat)(a:Option Addr)(l:List Int):Prop:=be w a l/\(0<l.length->∀x,a=some x->base<=x.block/\∀cur fr,w.heap[x.block]?≠some (.cells cur 5 fr))
theorem dW.moved{w w':World}{base:Nat}{a:Option Addr}{l:List Int}(h:dW w base a l)(hs:w.heap.size<=w'.heap.size)(hk:∀g,base<=g->g<w.heap.size->(∀cur fr,w.heap[g]?≠some (.cells cur 5 fr))->w'.heap[g]?=w.heap[g]?):dW w' base a l:=by
 refine⟨fun h0=>?_,fun h0 x ex=>?_⟩
 · obtain⟨g,o,e,hg,hc⟩:=h.1 h0;obtain⟨h1,h2⟩:=h.2 h0 _ e;refine⟨g,o,e,by omega,fun i hi=>?_⟩;rw[←hc i hi];exact World.cell?_of_block (w:=w) (hk g h1 hg h2)
 ·
  obtain⟨g,o,e,hg,hc⟩:=h.1 h0;obtain⟨h1,h2⟩:=h.2 h0 _ ex;have:x=⟨g,o,none⟩:=by rw[ex]at e;exact a2a e
  subst this;exact⟨h1,fun cur fr=>by rw[hk g h1 hg h2];exact h2 cur fr⟩
theorem dW.later{w w':World}{base:Nat}{a:Option Addr}{l:List Int}(h:dW w base a l)(hb:Below w.heap.size w w'):dW w' base a l:=h.moved hb.size (fun g _ hg _=>hb.block g hg)
theorem dW.mono{w:World}{base b':Nat}{a:Option Addr}{l:List Int}(h:dW w base a l)(hb:b'<=base):dW w b' a l:=⟨h.1,fun h0 x e=>⟨a0I hb (h.2 h0 x e).1,(h.2 h0 x e).2⟩⟩
theorem dW.touch{w w':World}{base b:Nat}{a:Option Addr}{l:List Int}(h:dW w base a l)(hs:w'.heap.size=w.heap.size)(hk:∀j,j≠b->w'.heap[j]?=w.heap[j]?)(hb:b<base):dW w' base a l:=h.moved (by omega) (fun g h1 _ _=>hk g (by omega))
theorem cm{w:World}{base n cap:Nat}{e:TypeId}{a:Option Addr}{l:List Int}(hn:l.length=n)(h:w.ownsRow base e 1 (.slice a n cap) n (l.map (Value.int .i64)))(he:e≠5:=by decide):dW w base a l:=by
 refine⟨xS hn h,fun h0 x ex=>?_⟩;subst ex;refine⟨(a0G h x.block rfl).1,fun cur fr=>?_⟩;rcases h.2 with⟨e',_⟩|⟨g,cap',cur',e',hbg,hg,_⟩
 · cases e'
 ·
  simp only[a0N,a0j]at e';obtain⟨rfl,_⟩:=e';show w.heap[g]?≠_;rw[hg];intro e2;cases e2
  exact he rfl
def bu(w:World)(base:Nat)(l:List Int)(C:Array Value):Prop:=
 ∃a cap ac cc q sc,C=(aK (.slice a l.length cap) (.slice ac l.length cc) (.slice q (aW l 15).length sc) (bL l 15)).toArray/\dW w base a l/\dW w base ac (aI l 15).2/\dW w base q (aW l 15)
theorem bu.later{w w':World}{base:Nat}{l:List Int}{C:Array Value}(h:bu w base l C)(hb:Below w.heap.size w w'):bu w' base l C:=by
 obtain⟨a,cap,ac,cc,q,sc,e,h1,h2,h3⟩:=h;exact⟨a,cap,ac,cc,q,sc,e,h1.later hb,h2.later hb,h3.later hb⟩
theorem bu.mono{w:World}{base b':Nat}{l:List Int}{C:Array Value}(h:bu w base l C)(hb:b'<=base):bu w b' l C:=by
 obtain⟨a,cap,ac,cc,q,sc,e,h1,h2,h3⟩:=h;exact⟨a,cap,ac,cc,q,sc,e,h1.mono hb,h2.mono hb,h3.mono hb⟩
theorem bu.touch{w w':World}{base b:Nat}{l:List Int}{C:Array Value}(h:bu w base l C)(hs:w'.heap.size=w.heap.size)(hk:∀j,j≠b->w'.heap[j]?=w.heap[j]?)(hb:b<base):bu w' base l C:=by
 obtain⟨a,cap,ac,cc,q,sc,e,h1,h2,h3⟩:=h;exact⟨a,cap,ac,cc,q,sc,e,h1.touch hs hk hb,h2.touch hs hk hb,h3.touch hs hk hb⟩
theorem bu.size{w:World}{base:Nat}{l:List Int}{C:Array Value}(h:bu w base l C):C.size=19:=by
 obtain⟨a,cap,ac,cc,q,sc,e,_⟩:=h;rw[e];simp[bo]
theorem bu.one{w:World}{base:Nat}{l:List Int}{C:Array Value}(h:bu w base l C):C.all (·.oneCell')=true:=by
 obtain⟨a,cap,ac,cc,q,sc,e,_⟩:=h;rw[e];exact fo rfl rfl rfl
theorem pQ(a:Option Addr)(cap n base:Nat)(l:List Int)(w:World)(hn:l.length=n)(h:dW w base a l)(hB:base<=w.heap.size)(hm:n<=300) :
  Calls Tryz.prog 107 #[.slice a n cap] w fun e w'=>(∃C,e = .returned (.agg C)/\bu w' base l C)/\Below w.heap.size w w':=by
 refine(Lit.codeBook_any a cap n l w hn h.1 hm).mono ?_;rintro e w' ⟨vs,C,rfl,hC,h1,h2,hb⟩;obtain⟨q,sc,rfl⟩:=h2.form;subst hn;exact⟨⟨C,rfl,a,cap,_,_,q,sc,hC,h.later hb,(cm (bA l 15) (h1.own (bA l 15))).mono (by omega),(cm rfl h2).mono (by omega)⟩,hb⟩
theorem mZ(k:Nat)(l:List Int)(C:Array Value)(base:Nat)(w:World)(hB:bu w base l C)(hk:k<l.length)(hm:l.length<=300) :
  Calls Tryz.prog 138 #[.agg C,.int .i64 (k:Int)] w fun e w'=>e = .returned (.agg #[.int .i64 (btI ((aI l 15).2.getD k 0) (l.getD k 0)),.int .i64 (l.getD k 0)])/\Below w.heap.size w w':=by
 obtain⟨a,cap,ac,cc,q,sc,e,h1,h2,h3⟩:=hB;exact Lit.bookPut_any a ac cap l.length cc k _ _ C l (aI l 15).2 w e rfl (bA l 15) h1.1 h2.1 hk hm
theorem nP(a:Option Addr)(cap n base:Nat)(l:List Int)(w:World)(hn:l.length=n)(h:dW w base a l)(hB:base<=w.heap.size)(hm:n<=300) :
  Calls Tryz.prog 108 #[.slice a n cap] w fun e w'=>(∃C,e = .returned (.agg C)/\bu w' base l C)/\Below w.heap.size w w':=by
 refine(Dist.codeBook_any a cap n l w hn h.1 hm).mono ?_;rintro e w' ⟨vs,C,rfl,hC,h1,h2,hb⟩;obtain⟨q,sc,rfl⟩:=h2.form;subst hn;exact⟨⟨C,rfl,a,cap,_,_,q,sc,hC,h.later hb,(cm (bA l 15) (h1.own (bA l 15))).mono (by omega),(cm rfl h2).mono (by omega)⟩,hb⟩
theorem wk(k:Nat)(l:List Int)(C:Array Value)(base:Nat)(w:World)(hB:bu w base l C)(hk:k<l.length)(hm:l.length<=300) :
  Calls Tryz.prog 175 #[.agg C,.int .i64 (k:Int)] w fun e w'=>e = .returned (.agg #[.int .i64 (btI ((aI l 15).2.getD k 0) (l.getD k 0)),.int .i64 (l.getD k 0)])/\Below w.heap.size w w':=by
 obtain⟨a,cap,ac,cc,q,sc,e,h1,h2,h3⟩:=hB;exact Dist.bookPut_any a ac cap l.length cc k _ _ C l (aI l 15).2 w e rfl (bA l 15) h1.1 h2.1 hk hm
def dG(w:World)(base:Nat)(L D:List Int)(C:Array Value):Prop:=∃C1 C2,C=C1++C2/\bu w base L C1/\bu w base D C2
theorem dG.later{w w':World}{base:Nat}{L D:List Int}{C:Array Value}(h:dG w base L D C)(hb:Below w.heap.size w w'):dG w' base L D C:=by
 obtain⟨C1,C2,e,h1,h2⟩:=h;exact⟨C1,C2,e,h1.later hb,h2.later hb⟩
theorem dG.size{w:World}{base:Nat}{L D:List Int}{C:Array Value}(h:dG w base L D C):C.size=38:=by
 obtain⟨C1,C2,rfl,h1,h2⟩:=h;rw[a2d,h1.size,h2.size]
theorem dG.one{w:World}{base:Nat}{L D:List Int}{C:Array Value}(h:dG w base L D C):C.all (·.oneCell')=true:=by
 obtain⟨C1,C2,rfl,h1,h2⟩:=h;rw[Array.all_append,h1.one,h2.one];rfl
theorem Tryz.infoBooks:(Tryz.prog.info? 136).map (·.size)=some 38:=by kernel_rfl
theorem Tryz.infoLitB:(Tryz.prog.info? 131).map (·.size)=some 19:=by kernel_rfl
theorem Tryz.infoDistB:(Tryz.prog.info? 134).map (·.size)=some 19:=by kernel_rfl
theorem gK{w:World}{b:Nat}{C1 C2:Array Value}{t:TypeId}(h:w.heap[b]?=some (Obj.cells (C1++C2) t))(h1:C1.size=19):w.rangeAt b 0 C1.toList/\w.rangeAt b 19 C2.toList:=by
 refine⟨fun j v hv=>?_,fun j v hv=>?_⟩
 ·
  have hj:j<C1.size:=by have:=(List.getElem?_eq_some_iff.1 hv).1;simpa using this
  rw[a0J];simp only[World.cell?,h];rw[Array.getElem?_append_left hj];simpa using hv
 · simp only[World.cell?,h];rw[Array.getElem?_append_right (by omega),h1,a16];simpa using hv
theorem Tryz.builtBooks(l1 c1 s1 l2 c2 s2:Value)(m1 m2:Nat->Nat):Tryz.prog.built 136 [(0,.agg (aK l1 c1 s1 m1).toArray),(1,.agg (aK l2 c2 s2 m2).toArray)]=some ((aK l1 c1 s1 m1).toArray++(aK l2 c2 s2 m2).toArray):=by kernel_rfl
theorem lj{w:World}{base:Nat}{L D:List Int}{C1 C2:Array Value}(h1:bu w base L C1)(h2:bu w base D C2):Tryz.prog.built 136 [(0,.agg C1),(1,.agg C2)]=some (C1++C2):=by
 obtain⟨_,_,_,_,_,_,rfl,_⟩:=h1;obtain⟨_,_,_,_,_,_,rfl,_⟩:=h2;exact Tryz.builtBooks _ _ _ _ _ _ _ _
theorem Cm:bY 288=List.replicate 144 8++(List.replicate 112 9++(List.replicate 24 7++List.replicate 8 8)):=by decide +kernel
end Go.Proofs.YtbacpebljannfaaGreatDoor
