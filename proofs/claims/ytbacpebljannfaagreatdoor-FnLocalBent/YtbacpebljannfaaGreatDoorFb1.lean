/- dy of codes, by what they are made of; both books of packed texts as one struct. -/
import Derived.Test.YtbacpebljannfaaGreatDoorM10
import Derived.Test.YtbacpebljannfaaGreatDoorRp1
import Derived.Test.YtbacpebljannfaaGreatDoorM11
import Derived.Test.YtbacpebljannfaaGreatDoorM7
import Derived.Laws.Tables
set_option linter.unusedSimpArgs false
namespace Go.Proofs.YtbacpebljannfaaGreatDoor
open Go.RowKit Corb
theorem wF{w:World}{base n cap:Nat}{e:TypeId}{a:Option Addr}{l:List Int}(hn:l.length=n)(h:w.ownsRow base e 1 (.slice a n cap) n (l.map (Value.int .i64))):aZ w a l:=by
 subst hn;intro h0;rcases h.2 with⟨_,h1⟩|⟨g,cap',cur,e,hb,hg,hr⟩
 · omega
 · simp only[a0O]at e;obtain⟨rfl,_,rfl⟩:=e;refine⟨g,0,rfl,(Array.getElem?_eq_some_iff.1 hg).1,fun i hi=>?_⟩;have c1:=a02 h i (by omega);rw[a0M,c1];simp[List.getD,hi]
def dO(w:World)(base:Nat)(a:Option Addr)(l:List Int):Prop:=aZ w a l/\(0<l.length->∀x,a=some x->base<=x.block/\∀cur fr,w.heap[x.block]?≠some (.cells cur 5 fr))
theorem dO.moved{w w':World}{base:Nat}{a:Option Addr}{l:List Int}(h:dO w base a l)(hs:w.heap.size<=w'.heap.size)(hk:∀g,base<=g->g<w.heap.size->(∀cur fr,w.heap[g]?≠some (.cells cur 5 fr))->w'.heap[g]?=w.heap[g]?):dO w' base a l:=by
 refine⟨fun h0=>?_,fun h0 x ex=>?_⟩
 · obtain⟨g,o,e,hg,hc⟩:=h.1 h0;obtain⟨h1,h2⟩:=h.2 h0 _ e;refine⟨g,o,e,by omega,fun i hi=>?_⟩;rw[←hc i hi];exact World.cell?_of_block (w:=w) (hk g h1 hg h2)
 ·
  obtain⟨g,o,e,hg,hc⟩:=h.1 h0;obtain⟨h1,h2⟩:=h.2 h0 _ ex;have:x=⟨g,o,none⟩:=by rw[ex]at e;exact a1J e
  subst this;exact⟨h1,fun cur fr=>by rw[hk g h1 hg h2];exact h2 cur fr⟩
theorem dO.later{w w':World}{base:Nat}{a:Option Addr}{l:List Int}(h:dO w base a l)(hb:Below w.heap.size w w'):dO w' base a l:=h.moved hb.size (fun g _ hg _=>hb.block g hg)
theorem dO.mono{w:World}{base b':Nat}{a:Option Addr}{l:List Int}(h:dO w base a l)(hb:b'<=base):dO w b' a l:=⟨h.1,fun h0 x e=>⟨a0I hb (h.2 h0 x e).1,(h.2 h0 x e).2⟩⟩
theorem dO.touch{w w':World}{base b:Nat}{a:Option Addr}{l:List Int}(h:dO w base a l)(hs:w'.heap.size=w.heap.size)(hk:∀j,j≠b->w'.heap[j]?=w.heap[j]?)(hb:b<base):dO w' base a l:=h.moved (by omega) (fun g h1 _ _=>hk g (by omega))
theorem bW{w:World}{base n cap:Nat}{e:TypeId}{a:Option Addr}{l:List Int}(hn:l.length=n)(h:w.ownsRow base e 1 (.slice a n cap) n (l.map (Value.int .i64)))(he:e≠5:=by decide):dO w base a l:=by
 refine⟨wF hn h,fun h0 x ex=>?_⟩;subst ex;refine⟨(a0G h x.block rfl).1,fun cur fr=>?_⟩;rcases h.2 with⟨e',_⟩|⟨g,cap',cur',e',hbg,hg,_⟩
 · cases e'
 ·
  simp only[a0O,a0n]at e';obtain⟨rfl,_⟩:=e';show w.heap[g]?≠_;rw[hg];intro e2;cases e2
  exact he rfl
def bp(w:World)(base:Nat)(l:List Int)(C:Array Value):Prop:=
 ∃a cap ac cc q sc,C=(aM (.slice a l.length cap) (.slice ac l.length cc) (.slice q (aU l 15).length sc) (bF l 15)).toArray/\dO w base a l/\dO w base ac (aI l 15).2/\dO w base q (aU l 15)
theorem bp.later{w w':World}{base:Nat}{l:List Int}{C:Array Value}(h:bp w base l C)(hb:Below w.heap.size w w'):bp w' base l C:=by
 obtain⟨a,cap,ac,cc,q,sc,e,h1,h2,h3⟩:=h;exact⟨a,cap,ac,cc,q,sc,e,h1.later hb,h2.later hb,h3.later hb⟩
theorem bp.mono{w:World}{base b':Nat}{l:List Int}{C:Array Value}(h:bp w base l C)(hb:b'<=base):bp w b' l C:=by
 obtain⟨a,cap,ac,cc,q,sc,e,h1,h2,h3⟩:=h;exact⟨a,cap,ac,cc,q,sc,e,h1.mono hb,h2.mono hb,h3.mono hb⟩
theorem bp.touch{w w':World}{base b:Nat}{l:List Int}{C:Array Value}(h:bp w base l C)(hs:w'.heap.size=w.heap.size)(hk:∀j,j≠b->w'.heap[j]?=w.heap[j]?)(hb:b<base):bp w' base l C:=by
 obtain⟨a,cap,ac,cc,q,sc,e,h1,h2,h3⟩:=h;exact⟨a,cap,ac,cc,q,sc,e,h1.touch hs hk hb,h2.touch hs hk hb,h3.touch hs hk hb⟩
theorem bp.size{w:World}{base:Nat}{l:List Int}{C:Array Value}(h:bp w base l C):C.size=19:=by
 obtain⟨a,cap,ac,cc,q,sc,e,_⟩:=h;rw[e];simp[bj]
theorem bp.one{w:World}{base:Nat}{l:List Int}{C:Array Value}(h:bp w base l C):C.all (·.oneCell')=true:=by
 obtain⟨a,cap,ac,cc,q,sc,e,_⟩:=h;rw[e];exact eG rfl rfl rfl
theorem pt(a:Option Addr)(cap n base:Nat)(l:List Int)(w:World)(hn:l.length=n)(h:dO w base a l)(hB:base<=w.heap.size)(hm:n<=300) :
  Calls Tryz.prog 107 #[.slice a n cap] w fun e w'=>(∃C,e = .returned (.agg C)/\bp w' base l C)/\Below w.heap.size w w':=by
 refine(Lit.codeBook_any a cap n l w hn h.1 hm).mono ?_;rintro e w' ⟨vs,C,rfl,hC,h1,h2,hb⟩;obtain⟨q,sc,rfl⟩:=h2.form;subst hn;exact⟨⟨C,rfl,a,cap,_,_,q,sc,hC,h.later hb,(bW (bu l 15) (h1.own (bu l 15))).mono (by omega),(bW rfl h2).mono (by omega)⟩,hb⟩
theorem mG(k:Nat)(l:List Int)(C:Array Value)(base:Nat)(w:World)(hB:bp w base l C)(hk:k<l.length)(hm:l.length<=300) :
  Calls Tryz.prog 138 #[.agg C,.int .i64 (k:Int)] w fun e w'=>e = .returned (.agg #[.int .i64 (btI ((aI l 15).2.getD k 0) (l.getD k 0)),.int .i64 (l.getD k 0)])/\Below w.heap.size w w':=by
 obtain⟨a,cap,ac,cc,q,sc,e,h1,h2,h3⟩:=hB;exact Lit.bookPut_any a ac cap l.length cc k _ _ C l (aI l 15).2 w e rfl (bu l 15) h1.1 h2.1 hk hm
theorem nj(a:Option Addr)(cap n base:Nat)(l:List Int)(w:World)(hn:l.length=n)(h:dO w base a l)(hB:base<=w.heap.size)(hm:n<=300) :
  Calls Tryz.prog 108 #[.slice a n cap] w fun e w'=>(∃C,e = .returned (.agg C)/\bp w' base l C)/\Below w.heap.size w w':=by
 refine(Dist.codeBook_any a cap n l w hn h.1 hm).mono ?_;rintro e w' ⟨vs,C,rfl,hC,h1,h2,hb⟩;obtain⟨q,sc,rfl⟩:=h2.form;subst hn;exact⟨⟨C,rfl,a,cap,_,_,q,sc,hC,h.later hb,(bW (bu l 15) (h1.own (bu l 15))).mono (by omega),(bW rfl h2).mono (by omega)⟩,hb⟩
theorem vo(k:Nat)(l:List Int)(C:Array Value)(base:Nat)(w:World)(hB:bp w base l C)(hk:k<l.length)(hm:l.length<=300) :
  Calls Tryz.prog 175 #[.agg C,.int .i64 (k:Int)] w fun e w'=>e = .returned (.agg #[.int .i64 (btI ((aI l 15).2.getD k 0) (l.getD k 0)),.int .i64 (l.getD k 0)])/\Below w.heap.size w w':=by
 obtain⟨a,cap,ac,cc,q,sc,e,h1,h2,h3⟩:=hB;exact Dist.bookPut_any a ac cap l.length cc k _ _ C l (aI l 15).2 w e rfl (bu l 15) h1.1 h2.1 hk hm
def dy(w:World)(base:Nat)(L D:List Int)(C:Array Value):Prop:=∃C1 C2,C=C1++C2/\bp w base L C1/\bp w base D C2
theorem dy.later{w w':World}{base:Nat}{L D:List Int}{C:Array Value}(h:dy w base L D C)(hb:Below w.heap.size w w'):dy w' base L D C:=by
 obtain⟨C1,C2,e,h1,h2⟩:=h;exact⟨C1,C2,e,h1.later hb,h2.later hb⟩
theorem dy.size{w:World}{base:Nat}{L D:List Int}{C:Array Value}(h:dy w base L D C):C.size=38:=by
 obtain⟨C1,C2,rfl,h1,h2⟩:=h;rw[a17,h1.size,h2.size]
theorem dy.one{w:World}{base:Nat}{L D:List Int}{C:Array Value}(h:dy w base L D C):C.all (·.oneCell')=true:=by
 obtain⟨C1,C2,rfl,h1,h2⟩:=h;rw[Array.all_append,h1.one,h2.one];rfl
theorem Tryz.infoBooks:(Tryz.prog.info? 136).map (·.size)=some 38:=by kernel_rfl
theorem Tryz.infoLitB:(Tryz.prog.info? 131).map (·.size)=some 19:=by kernel_rfl
theorem Tryz.infoDistB:(Tryz.prog.info? 134).map (·.size)=some 19:=by kernel_rfl
theorem f8{w:World}{b:Nat}{C1 C2:Array Value}{t:TypeId}(h:w.heap[b]?=some (Obj.cells (C1++C2) t))(h1:C1.size=19):w.rangeAt b 0 C1.toList/\w.rangeAt b 19 C2.toList:=by
 refine⟨fun j v hv=>?_,fun j v hv=>?_⟩
 ·
  have hj:j<C1.size:=by have:=(List.getElem?_eq_some_iff.1 hv).1;simpa using this
  rw[a0M];simp only[World.cell?,h];rw[Array.getElem?_append_left hj];simpa using hv
 · simp only[World.cell?,h];rw[Array.getElem?_append_right (by omega),h1,a1X];simpa using hv
theorem Tryz.builtBooks(l1 c1 s1 l2 c2 s2:Value)(m1 m2:Nat->Nat):Tryz.prog.built 136 [(0,.agg (aM l1 c1 s1 m1).toArray),(1,.agg (aM l2 c2 s2 m2).toArray)]=some ((aM l1 c1 s1 m1).toArray++(aM l2 c2 s2 m2).toArray):=by kernel_rfl
theorem kx{w:World}{base:Nat}{L D:List Int}{C1 C2:Array Value}(h1:bp w base L C1)(h2:bp w base D C2):Tryz.prog.built 136 [(0,.agg C1),(1,.agg C2)]=some (C1++C2):=by
 obtain⟨_,_,_,_,_,_,rfl,_⟩:=h1;obtain⟨_,_,_,_,_,_,rfl,_⟩:=h2;exact Tryz.builtBooks _ _ _ _ _ _ _ _
theorem AO:dj 288=List.replicate 144 8++(List.replicate 112 9++(List.replicate 24 7++List.replicate 8 8)):=by decide +kernel
end Go.Proofs.YtbacpebljannfaaGreatDoor
