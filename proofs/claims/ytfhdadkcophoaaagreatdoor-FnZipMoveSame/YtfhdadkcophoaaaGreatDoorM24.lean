/- Of what the proof is made: 2 texts, one behind the other. -/
import Derived.Test.YtfhdadkcophoaaaGreatDoorM13
import Derived.Test.YtfhdadkcophoaaaGreatDoorM18
import Derived.Test.YtfhdadkcophoaaaGreatDoorM14
import Derived.Test.YtfhdadkcophoaaaGreatDoorM9
import Derived.Laws.Tables
set_option linter.unusedSimpArgs false
set_option linter.unusedVariables false
set_option maxHeartbeats 3200000
namespace Go.Proofs.YtfhdadkcophoaaaGreatDoor
open Go.RowKit Corb
theorem G9{w:World}{base n cap:Nat}{e:TypeId}{a:Option Addr}{l:List Int}(hn:l.length=n)(h:w.ownsRow base e 1 (.slice a n cap) n (l.map (Value.int .i64))):bH w a l:=by
 subst hn;intro h0;rcases h.2 with⟨_,h1⟩|⟨g,cap',cur,e,hb,hg,hr⟩
 · omega
 · simp only[a0J]at e;obtain⟨rfl,_,rfl⟩:=e;refine⟨g,0,rfl,(Array.getElem?_eq_some_iff.1 hg).1,fun i hi=>?_⟩;have c1:=a06 h i (by omega);rw[a0G,c1];simp[List.getD,hi]
def dK(w:World)(base:Nat)(a:Option Addr)(l:List Int):Prop:=bH w a l/\(0<l.length->∀x,a=some x->base<=x.block/\∀cur fr,w.heap[x.block]?≠some (.cells cur 5 fr))
theorem dK.moved{w w':World}{base:Nat}{a:Option Addr}{l:List Int}(h:dK w base a l)(hs:w.heap.size<=w'.heap.size)(hk:∀g,base<=g->g<w.heap.size->(∀cur fr,w.heap[g]?≠some (.cells cur 5 fr))->w'.heap[g]?=w.heap[g]?):dK w' base a l:=by
 refine⟨fun h0=>?_,fun h0 x ex=>?_⟩
 · obtain⟨g,o,e,hg,hc⟩:=h.1 h0;obtain⟨h1,h2⟩:=h.2 h0 _ e;refine⟨g,o,e,by omega,fun i hi=>?_⟩;rw[←hc i hi];exact World.cell?_of_block (w:=w) (hk g h1 hg h2)
 ·
  obtain⟨g,o,e,hg,hc⟩:=h.1 h0;obtain⟨h1,h2⟩:=h.2 h0 _ ex;have:x=⟨g,o,none⟩:=by rw[ex]at e;exact a1u e
  subst this;exact⟨h1,fun cur fr=>by rw[hk g h1 hg h2];exact h2 cur fr⟩
theorem dK.later{w w':World}{base:Nat}{a:Option Addr}{l:List Int}(h:dK w base a l)(hb:Below w.heap.size w w'):dK w' base a l:=h.moved hb.size (fun g _ hg _=>hb.block g hg)
theorem dK.mono{w:World}{base b':Nat}{a:Option Addr}{l:List Int}(h:dK w base a l)(hb:b'<=base):dK w b' a l:=⟨h.1,fun h0 x e=>⟨a0D hb (h.2 h0 x e).1,(h.2 h0 x e).2⟩⟩
theorem dK.touch{w w':World}{base b:Nat}{a:Option Addr}{l:List Int}(h:dK w base a l)(hs:w'.heap.size=w.heap.size)(hk:∀j,j≠b->w'.heap[j]?=w.heap[j]?)(hb:b<base):dK w' base a l:=h.moved (by omega) (fun g h1 _ _=>hk g (by omega))
theorem cx{w:World}{base n cap:Nat}{e:TypeId}{a:Option Addr}{l:List Int}(hn:l.length=n)(h:w.ownsRow base e 1 (.slice a n cap) n (l.map (Value.int .i64)))(he:e≠5:=by decide):dK w base a l:=by
 refine⟨G9 hn h,fun h0 x ex=>?_⟩;subst ex;refine⟨(a0C h x.block rfl).1,fun cur fr=>?_⟩;rcases h.2 with⟨e',_⟩|⟨g,cap',cur',e',hbg,hg,_⟩
 · cases e'
 ·
  simp only[a0J,a0k]at e';obtain⟨rfl,_⟩:=e';show w.heap[g]?≠_;rw[hg];intro e2;cases e2
  exact he rfl
def bn(w:World)(base:Nat)(l:List Int)(C:Array Value):Prop:=
 ∃a cap ac cc q sc,C=(aO (.slice a l.length cap) (.slice ac l.length cc) (.slice q (cF l 15).length sc) (fm l 15)).toArray/\dK w base a l/\dK w base ac (bF l 15).2/\dK w base q (cF l 15)
theorem bn.later{w w':World}{base:Nat}{l:List Int}{C:Array Value}(h:bn w base l C)(hb:Below w.heap.size w w'):bn w' base l C:=by
 obtain⟨a,cap,ac,cc,q,sc,e,h1,h2,h3⟩:=h;exact⟨a,cap,ac,cc,q,sc,e,h1.later hb,h2.later hb,h3.later hb⟩
theorem bn.mono{w:World}{base b':Nat}{l:List Int}{C:Array Value}(h:bn w base l C)(hb:b'<=base):bn w b' l C:=by
 obtain⟨a,cap,ac,cc,q,sc,e,h1,h2,h3⟩:=h;exact⟨a,cap,ac,cc,q,sc,e,h1.mono hb,h2.mono hb,h3.mono hb⟩
theorem bn.touch{w w':World}{base b:Nat}{l:List Int}{C:Array Value}(h:bn w base l C)(hs:w'.heap.size=w.heap.size)(hk:∀j,j≠b->w'.heap[j]?=w.heap[j]?)(hb:b<base):bn w' base l C:=by
 obtain⟨a,cap,ac,cc,q,sc,e,h1,h2,h3⟩:=h;exact⟨a,cap,ac,cc,q,sc,e,h1.touch hs hk hb,h2.touch hs hk hb,h3.touch hs hk hb⟩
theorem bn.size{w:World}{base:Nat}{l:List Int}{C:Array Value}(h:bn w base l C):C.size=19:=by
 obtain⟨a,cap,ac,cc,q,sc,e,_⟩:=h;rw[e];simp[ce]
theorem bn.one{w:World}{base:Nat}{l:List Int}{C:Array Value}(h:bn w base l C):C.all (·.oneCell')=true:=by
 obtain⟨a,cap,ac,cc,q,sc,e,_⟩:=h;rw[e];exact iK rfl rfl rfl
theorem oU(a:Option Addr)(cap n base:Nat)(l:List Int)(w:World)(hn:l.length=n)(h:dK w base a l)(hB:base<=w.heap.size)(hm:n<=300) :
  Calls Tryz.prog 122 #[.slice a n cap] w fun e w'=>(∃C,e = .returned (.agg C)/\bn w' base l C)/\Below w.heap.size w w':=by
 refine(Bkx.codeBook_any Bkx.bkL (.inl rfl) a cap n l w hn h.1 hm).mono ?_;rintro e w' ⟨vs,C,rfl,hC,h1,h2,hb⟩;obtain⟨q,sc,rfl⟩:=h2.form;subst hn;exact⟨⟨C,rfl,a,cap,_,_,q,sc,hC,h.later hb,(cx (de l 15) (h1.own (de l 15))).mono (by omega),(cx rfl h2).mono (by omega)⟩,hb⟩
theorem mf(k:Nat)(l:List Int)(C:Array Value)(base:Nat)(w:World)(hB:bn w base l C)(hk:k<l.length)(hm:l.length<=300) :
  Calls Tryz.prog 148 #[.agg C,.int .i64 (k:Int)] w fun e w'=>e = .returned (.agg #[.int .i64 (btI ((bF l 15).2.getD k 0) (l.getD k 0)),.int .i64 (l.getD k 0)])/\Below w.heap.size w w':=by
 obtain⟨a,cap,ac,cc,q,sc,e,h1,h2,h3⟩:=hB;exact Bkx.bookPut_any Bkx.bkL (.inl rfl) a ac cap l.length cc k _ _ C l (bF l 15).2 w e rfl (de l 15) h1.1 h2.1 hk hm
theorem mN(a:Option Addr)(cap n base:Nat)(l:List Int)(w:World)(hn:l.length=n)(h:dK w base a l)(hB:base<=w.heap.size)(hm:n<=300) :
  Calls Tryz.prog 123 #[.slice a n cap] w fun e w'=>(∃C,e = .returned (.agg C)/\bn w' base l C)/\Below w.heap.size w w':=by
 refine(Bkx.codeBook_any Bkx.bkD (.inr (.inl rfl)) a cap n l w hn h.1 hm).mono ?_;rintro e w' ⟨vs,C,rfl,hC,h1,h2,hb⟩;obtain⟨q,sc,rfl⟩:=h2.form;subst hn;exact⟨⟨C,rfl,a,cap,_,_,q,sc,hC,h.later hb,(cx (de l 15) (h1.own (de l 15))).mono (by omega),(cx rfl h2).mono (by omega)⟩,hb⟩
theorem vS(k:Nat)(l:List Int)(C:Array Value)(base:Nat)(w:World)(hB:bn w base l C)(hk:k<l.length)(hm:l.length<=300) :
  Calls Tryz.prog 175 #[.agg C,.int .i64 (k:Int)] w fun e w'=>e = .returned (.agg #[.int .i64 (btI ((bF l 15).2.getD k 0) (l.getD k 0)),.int .i64 (l.getD k 0)])/\Below w.heap.size w w':=by
 obtain⟨a,cap,ac,cc,q,sc,e,h1,h2,h3⟩:=hB;exact Bkx.bookPut_any Bkx.bkD (.inr (.inl rfl)) a ac cap l.length cc k _ _ C l (bF l 15).2 w e rfl (de l 15) h1.1 h2.1 hk hm
def db(w:World)(base:Nat)(L D:List Int)(C:Array Value):Prop:=∃C1 C2,C=C1++C2/\bn w base L C1/\bn w base D C2
theorem db.later{w w':World}{base:Nat}{L D:List Int}{C:Array Value}(h:db w base L D C)(hb:Below w.heap.size w w'):db w' base L D C:=by
 obtain⟨C1,C2,e,h1,h2⟩:=h;exact⟨C1,C2,e,h1.later hb,h2.later hb⟩
theorem db.size{w:World}{base:Nat}{L D:List Int}{C:Array Value}(h:db w base L D C):C.size=38:=by
 obtain⟨C1,C2,rfl,h1,h2⟩:=h;rw[a16,h1.size,h2.size]
theorem db.one{w:World}{base:Nat}{L D:List Int}{C:Array Value}(h:db w base L D C):C.all (·.oneCell')=true:=by
 obtain⟨C1,C2,rfl,h1,h2⟩:=h;rw[Array.all_append,h1.one,h2.one];rfl
theorem Tryz.infoBooks:(Tryz.prog.info? 157).map (·.size)=some 38:=by kernel_rfl
theorem Tryz.infoLitB:(Tryz.prog.info? 152).map (·.size)=some 19:=by kernel_rfl
theorem Tryz.infoDistB:(Tryz.prog.info? 155).map (·.size)=some 19:=by kernel_rfl
theorem fZ{w:World}{b:Nat}{C1 C2:Array Value}{t:TypeId}(h:w.heap[b]?=some (Obj.cells (C1++C2) t))(h1:C1.size=19):w.rangeAt b 0 C1.toList/\w.rangeAt b 19 C2.toList:=by
 refine⟨fun j v hv=>?_,fun j v hv=>?_⟩
 ·
  have hj:j<C1.size:=by have:=(List.getElem?_eq_some_iff.1 hv).1;simpa using this
  rw[a0G];simp only[World.cell?,h];rw[Array.getElem?_append_left hj];simpa using hv
 · simp only[World.cell?,h];rw[Array.getElem?_append_right (by omega),h1,a1y];simpa using hv
theorem Tryz.builtBooks(l1 c1 s1 l2 c2 s2:Value)(m1 m2:Nat->Nat):Tryz.prog.built 157 [(0,.agg (aO l1 c1 s1 m1).toArray),(1,.agg (aO l2 c2 s2 m2).toArray)]=some ((aO l1 c1 s1 m1).toArray++(aO l2 c2 s2 m2).toArray):=by kernel_rfl
theorem j7{w:World}{base:Nat}{L D:List Int}{C1 C2:Array Value}(h1:bn w base L C1)(h2:bn w base D C2):Tryz.prog.built 157 [(0,.agg C1),(1,.agg C2)]=some (C1++C2):=by
 obtain⟨_,_,_,_,_,_,rfl,_⟩:=h1;obtain⟨_,_,_,_,_,_,rfl,_⟩:=h2;exact Tryz.builtBooks _ _ _ _ _ _ _ _
theorem CJ:di 288=List.replicate 144 8++(List.replicate 112 9++(List.replicate 24 7++List.replicate 8 8)):=by decide +kernel
theorem kJ(v:Int)(c cap g o:Nat)(w:World)(hv:w.cell? ⟨g,o,none⟩=some (.int .i64 v))(h1:1<=c)(hc:(c:Int)<=1000) :
  Calls Tryz.prog 91 #[.slice (some ⟨g,o,none⟩) 1 cap,.int .i64 (c:Nat)] w fun e w'=>(∃g',e = .returned (.slice (some ⟨g',0,none⟩) c c)/\ap w' w.heap.size (.slice (some ⟨g',0,none⟩) c c) (List.replicate c v))/\Below w.heap.size w w':=
 (mr v c cap g o w hv h1 hc).mono fun _ _ ⟨he,ho,hb⟩=>⟨⟨_,he,ho⟩,hb⟩
theorem zj(x:World)(a b c d:Value)(t:TypeId):(x.alloc (.cells #[a,b,c,d] t)).cell? ⟨x.heap.size,0,none⟩=some a/\(x.alloc (.cells #[a,b,c,d] t)).cell? ⟨x.heap.size,1,none⟩=some b/\(x.alloc (.cells #[a,b,c,d] t)).cell? ⟨x.heap.size,2,none⟩=some c/\(x.alloc (.cells #[a,b,c,d] t)).cell? ⟨x.heap.size,3,none⟩=some d:=⟨by simp,by simp,by simp,by simp⟩
theorem fS{w w':World}{b b':Nat}{v:Value}{l:List Int}(h:ap w b v l)(hb:Below w.heap.size w w')(hB:b'<=b):ap w' b' v l:=(h.later hb (a0a _)).mono hB
def iL:Array Value:=#[Value.slice none 0 0,Value.slice none 0 0,Value.int .i64 0,Value.int .i64 0,Value.int .i64 0,Value.int .i64 0,Value.int .i64 0,Value.int .i64 0,Value.int .i64 0,Value.int .i64 0,Value.int .i64 0,Value.int .i64 0,Value.int .i64 0,Value.int .i64 0,Value.int .i64 0,Value.int .i64 0,Value.int .i64 0,Value.int .i64 0,Value.slice none 0 0,Value.slice none 0 0,Value.slice none 0 0,Value.int .i64 0,Value.int .i64 0,Value.int .i64 0,Value.int .i64 0,Value.int .i64 0,Value.int .i64 0,Value.int .i64 0,Value.int .i64 0,Value.int .i64 0,Value.int .i64 0,Value.int .i64 0,Value.int .i64 0,Value.int .i64 0,Value.int .i64 0,Value.int .i64 0,Value.int .i64 0,Value.slice none 0 0]
theorem im{ops:Array Oper}{rest:List Oper}{o:Oper}{a:Act}{w:World}{Q:Exit->Act->World->Prop}(hg:o.guard=none)(x y:Operand)(ho:o.op = .build 157 #[(0,x),(1,y)])(C1 C2:Array Value)(hx:a.eval x = .agg C1)(hy:a.eval y = .agg C2)
  (hb:Tryz.prog.built 157 [(0,.agg C1),(1,.agg C2)]=some (C1++C2)) (h:wpList Tryz.prog ops Q rest (a.put o.dst (.agg (C1++C2))) w):wpList Tryz.prog ops Q (o :: rest) a w:=by
 have e:((#[(0,x),(1,y)]:Array (Nat×Operand)).map fun(i,x)=>(i,a.eval x)).toList=[(0,.agg C1),(1,.agg C2)]:=by simp[hx,hy]
 refine wpList_build hg 157 #[(0,x),(1,y)] ho (by rw[e,hb];rfl) ?_;rw[e,hb];exact h
theorem dX(b:Nat):∀(vs:List Value) (o:Nat) (w:World) (j:Nat),j≠b->(w.setCells b o vs).heap[j]?=w.heap[j]?
 | [],_,_,_,_=>rfl
 | v :: r,o,w,j,hj=>by
  rw[World.setCells,dX b r _ _ _ hj];exact a0I w ⟨b,o,none⟩ v j hj
theorem one_cell(x:World)(v:Value)(t:TypeId):(x.alloc (.cells #[v] t)).cell? ⟨x.heap.size,0,none⟩=some v:=by simp
theorem cW(x:World)(o:Obj):(x.alloc o).heap.size=x.heap.size+1:=by simp
set_option maxRecDepth 100000 in
theorem kg(w:World) :
  Calls Tryz.prog 117 #[] w fun e w'=>(∃C,e = .returned (.agg C)/\db w' (w.heap.size+1) (di 288) (List.replicate 32 5) C)/\Below w.heap.size w w':=by
 obtain⟨W0,hW0⟩:∃W,w.alloc (.cells iL 157)=W:=⟨_,rfl⟩;have S0:W0.heap.size=w.heap.size+1:=by rw[←hW0];exact cW _ _
 have B0:Hid (Below w.heap.size w W0):=by rw[←hW0];exact(a0b _ _).alloc (a0a _) _
 have T0:Hid (W0.there w.heap.size 0 38):=by rw[←hW0];exact fO w iL _ _ rfl
 have E0:=af hW0;unfold iL at E0;have S0':=af S0;clear hW0 S0;go_enter Tryz.func117,Tryz.ntmps117;go_wp2_with fail;rw[ae E0];have c1:(W0.alloc (.cells #[.int .i64 8] 3)).cell? ⟨w.heap.size+1,0,none⟩=some (.int .i64 8):=by rw[←ae S0'];exact one_cell _ _ _
 refine(kJ 8 144 1 (w.heap.size+1) 0 _ c1 (by omega) (by omega)).mono ?_;rintro e x1 ⟨⟨g1,rfl,o1⟩,b1⟩;have hA1:Below W0.heap.size W0 x1:=ag ((a0b _ _).alloc (a0a _) _) b1;have O1:=af (o1.mono (base':=w.heap.size+1) (by rw[cW,ae S0'];omega));have A1:=af hA1;clear c1 o1 b1 hA1;go_wp2_with fail;refine(kJ 9 112 1 x1.heap.size 0 _ (one_cell _ _ _) (by omega) (by omega)).mono ?_;rintro e x2 ⟨⟨g2,rfl,o2⟩,b2⟩;have hA2:=ag (ae A1) (ag ((a0b _ _).alloc (a0a _) _) b2);have O1':=af (fS (ae O1) (ag ((a0b _ _).alloc (a0a _) _) b2) (a0a _));have O2:=af (o2.mono (base':=w.heap.size+1) (by rw[cW];have:=(ae A1).size;have:=ae S0';omega));have A2:=af hA2;clear o2 b2 hA2 O1 A1;go_wp2_with fail;refine(kJ 7 24 1 x2.heap.size 0 _ (one_cell _ _ _) (by omega) (by omega)).mono ?_;rintro e x3 ⟨⟨g3,rfl,o3⟩,b3⟩;have hA3:=ag (ae A2) (ag ((a0b _ _).alloc (a0a _) _) b3);have O1:=af (fS (ae O1') (ag ((a0b _ _).alloc (a0a _) _) b3) (a0a _));have O2':=af (fS (ae O2) (ag ((a0b _ _).alloc (a0a _) _) b3) (a0a _));have O3:=af (o3.mono (base':=w.heap.size+1) (by rw[cW];have:=(ae A2).size;have:=ae S0';omega));have A3:=af hA3;clear o3 b3 hA3 O1' O2 A2;go_wp2_with fail;refine(kJ 8 8 1 x3.heap.size 0 _ (one_cell _ _ _) (by omega) (by omega)).mono ?_;rintro e x4 ⟨⟨g4,rfl,o4⟩,b4⟩;have hA4:=ag (ae A3) (ag ((a0b _ _).alloc (a0a _) _) b4);have O1':=af (fS (ae O1) (ag ((a0b _ _).alloc (a0a _) _) b4) (a0a _));have O2:=af (fS (ae O2') (ag ((a0b _ _).alloc (a0a _) _) b4) (a0a _));have O3':=af (fS (ae O3) (ag ((a0b _ _).alloc (a0a _) _) b4) (a0a _));have O4:=af (o4.mono (base':=w.heap.size+1) (by rw[cW];have:=(ae A3).size;have:=ae S0';omega));have A4:=af hA4;clear o4 b4 hA4 O1 O2' O3 A3;go_wp2_with fail;have hb5:Below x4.heap.size x4 (x4.alloc (.cells #[.slice (some ⟨g1,0,none⟩) 144 144,.slice (some ⟨g2,0,none⟩) 112 112,.slice (some ⟨g3,0,none⟩) 24 24,.slice (some ⟨g4,0,none⟩) 8 8] 104)):=(a0b _ _).alloc (a0a _) _;have hR:gG (x4.alloc (.cells #[.slice (some ⟨g1,0,none⟩) 144 144,.slice (some ⟨g2,0,none⟩) 112 112,.slice (some ⟨g3,0,none⟩) 24 24,.slice (some ⟨g4,0,none⟩) 8 8] 104)) x4.heap.size (w.heap.size+1) [(.slice (some ⟨g1,0,none⟩) 144 144,(List.replicate 144 8).map (Value.int .i64)),(.slice (some ⟨g2,0,none⟩) 112 112,(List.replicate 112 9).map (Value.int .i64)),(.slice (some ⟨g3,0,none⟩) 24 24,(List.replicate 24 7).map (Value.int .i64)),(.slice (some ⟨g4,0,none⟩) 8 8,(List.replicate 8 8).map (Value.int .i64))]:=by
  obtain⟨d0,d1,d2,d3⟩:=zj x4 (.slice (some ⟨g1,0,none⟩) 144 144) (.slice (some ⟨g2,0,none⟩) 112 112) (.slice (some ⟨g3,0,none⟩) 24 24) (.slice (some ⟨g4,0,none⟩) 8 8) 104;intro i hi
  match i,hi with
  | 0,_=>exact⟨d0,_,fS (ae O1') hb5 (a0a _),a1Z .i64 _⟩
  | 1,_=>exact⟨d1,_,fS (ae O2) hb5 (a0a _),a1Z .i64 _⟩
  | 2,_=>exact⟨d2,_,fS (ae O3') hb5 (a0a _),a1Z .i64 _⟩
  | 3,_=>exact⟨d3,_,fS (ae O4) hb5 (a0a _),a1Z .i64 _⟩
 have hlen:aF [(Value.slice (some ⟨g1,0,none⟩) 144 144,(List.replicate 144 8).map (Value.int .i64)),(.slice (some ⟨g2,0,none⟩) 112 112,(List.replicate 112 9).map (Value.int .i64)),(.slice (some ⟨g3,0,none⟩) 24 24,(List.replicate 24 7).map (Value.int .i64)),(.slice (some ⟨g4,0,none⟩) 8 8,(List.replicate 8 8).map (Value.int .i64))]=288:=by simp[aF,bJ]
 have hall:cz [(Value.slice (some ⟨g1,0,none⟩) 144 144,(List.replicate 144 8).map (Value.int .i64)),(.slice (some ⟨g2,0,none⟩) 112 112,(List.replicate 112 9).map (Value.int .i64)),(.slice (some ⟨g3,0,none⟩) 24 24,(List.replicate 24 7).map (Value.int .i64)),(.slice (some ⟨g4,0,none⟩) 8 8,(List.replicate 8 8).map (Value.int .i64))]=(di 288).map (Value.int .i64):=by
  rw[CJ];simp only[cz,a0V,a2B,a0K,a1l]
 refine(nQ x4.heap.size (w.heap.size+1) 4 4 _ _ rfl (by omega) (by omega) hR (by rw[hlen];omega)).mono ?_;rintro e x5 ⟨v,rfl,ho5,hb⟩;rw[hlen,hall]at ho5;have hA5:=ag (ae A4) (ag hb5 hb);have HO:ap x5 (w.heap.size+1) v (di 288):=by
  have h0:ap x5 (x4.alloc (.cells #[.slice (some ⟨g1,0,none⟩) 144 144,.slice (some ⟨g2,0,none⟩) 112 112,.slice (some ⟨g3,0,none⟩) 24 24,.slice (some ⟨g4,0,none⟩) 8 8] 104)).heap.size v (di 288):=by
   show World.ownsRow _ _ _ _ _ (di 288).length _;rw[dE];exact ho5
  refine h0.mono ?_;rw[cW];have:=(ae A4).size;have:=ae S0';omega
 obtain⟨va,vc,rfl⟩:=HO.formN (dE 288);have J5:=af (cx (dE 288) (HO.own (dE 288)));have A5:=af hA5;have hs5:Hid (w.heap.size+1<=x5.heap.size):=by show _<=_;have:=hA5.size;have:=ae S0';omega
 clear hb5 hR hlen hall ho5 hb hA5 HO O1' O2 O3' O4 A4;go_wp2_with fail;refine(oU va vc 288 (w.heap.size+1) (di 288) _ (dE 288) (ae J5) (ae hs5) (by omega)).mono ?_;rintro e x6 ⟨⟨C1,rfl,k1⟩,b6⟩;have A6:=af (ag (ae A5) b6);have K1:=af k1;clear k1 b6 J5 hs5 A5;go_wp2_with fail;refine(kJ 5 32 1 x6.heap.size 0 _ (one_cell _ _ _) (by omega) (by omega)).mono ?_;rintro e x7 ⟨⟨g7,rfl,o7⟩,b7⟩;have hb7:=ag ((a0b _ _).alloc (a0a _) _) b7;have A7:=af (ag (ae A6) hb7);have K1':=af ((ae K1).later hb7);have J7:=af (cx (a0A ..) (ap.own (a0A ..) (o7.mono (base':=w.heap.size+1) (by rw[cW];have:=(ae A6).size;have:=ae S0';omega))));have hs7:Hid (w.heap.size+1<=x7.heap.size):=by show _<=_;have:=(ae A7).size;have:=ae S0';omega
 clear hb7 o7 b7 K1 A6;go_wp2_with fail;refine(mN (some ⟨g7,0,none⟩) 32 32 (w.heap.size+1) (List.replicate 32 5) _ (a0A ..) (ae J7) (ae hs7) (by omega)).mono ?_;rintro e x8 ⟨⟨C2,rfl,k2⟩,b8⟩;have A8:=af (ag (ae A7) b8);have K1:=af ((ae K1').later b8);have K2:=af k2;have HBu:=af (j7 (ae K1) (ae K2));have HTh:Hid (x8.there w.heap.size 0 38):=fun j hj=>by
  obtain⟨h1,h2⟩:=ae T0 j hj;have hlt:w.heap.size<W0.heap.size:=by have:=ae S0';omega
  exact⟨by rw[(ae A8).cell (p:=⟨w.heap.size,0+j,none⟩) hlt];exact h1,by rw[(ae A8).frozen (p:=⟨w.heap.size,0+j,none⟩) hlt];exact h2⟩
 have hsz1:=(ae K1).size;have hsz2:=(ae K2).size;have HSz:Hid ((C1++C2).size=38):=by show _=_;rw[a16,hsz1,hsz2]
 have H1C:Hid ((C1++C2).all (·.oneCell')=true):=by show _=true;rw[Array.all_append,(ae K1).one,(ae K2).one];rfl
 clear hsz1 hsz2 k2 b8 K1' J7 hs7 A7;go_wp2_with (first
  | (refine im rfl (.tmp 13) (.tmp 16) rfl C1 C2 rfl rfl (ae HBu) ?_)
  | (refine wpList_store_mid rfl 157 (.tmp 0) (.tmp 17) rfl w.heap.size 0 (C1++C2) rfl rfl (by rw[ae HSz];exact ae HTh) (by rw[ae HSz];exact Tryz.infoBooks) (ae H1C) ?_))
 have hr:=World.rangeAt_setCells_same x8 w.heap.size 0 (C1++C2).toList (by rw[a1E,ae HSz];exact ae HTh);have hk:∀j,j≠w.heap.size->(x8.setCells w.heap.size 0 (C1++C2).toList).heap[j]?=x8.heap[j]?:=fun j hj=>dX _ _ _ _ j hj;have hz:(x8.setCells w.heap.size 0 (C1++C2).toList).heap.size=x8.heap.size:=size_setCells _ _ _ _;refine a0w (dO rfl _ _ w.heap.size _ _ rfl hr a22 rfl (by rw[a1E,ae HSz];exact Tryz.infoBooks)) rfl ⟨⟨C1++C2,by simp,C1,C2,rfl,(ae K1).touch hz hk (a0l _),(ae K2).touch hz hk (a0l _)⟩,?_⟩;exact below_setCells (a0a _) _ _ _ (ag (ae B0) (ae A8))
end Go.Proofs.YtfhdadkcophoaaaGreatDoor
