/- Of what the proof is made: 2 texts, one behind the other. -/
import Derived.Test.YtkdlcomfpffhhaaGreatDoorM12
import Derived.Test.YtkdlcomfpffhhaaGreatDoorM15
import Derived.Test.YtkdlcomfpffhhaaGreatDoorM13
import Derived.Test.YtkdlcomfpffhhaaGreatDoorM8
import Derived.Laws.Tables
import Derived.Test.YtkdlcomfpffhhaaGreatDoorM10
set_option linter.unusedSimpArgs false
set_option linter.unusedVariables false
set_option maxHeartbeats 3200000
namespace Go.Proofs.YtkdlcomfpffhhaaGreatDoor
open Go.RowKit Corb
theorem Ho{w:World}{base n cap:Nat}{e:TypeId}{a:Option Addr}{l:List Int}(hn:l.length=n)(h:w.ownsRow base e 1 (.slice a n cap) n (l.map (Value.int .i64))):bB w a l:=by
 subst hn;intro h0;rcases h.2 with⟨_,h1⟩|⟨g,cap',cur,e,hb,hg,hr⟩
 · omega
 · simp only[a0L]at e;obtain⟨rfl,_,rfl⟩:=e;refine⟨g,0,rfl,(Array.getElem?_eq_some_iff.1 hg).1,fun i hi=>?_⟩;have c1:=a1f h i (by omega);rw[a0A,c1];simp[List.getD,hi]
def dN(w:World)(base:Nat)(a:Option Addr)(l:List Int):Prop:=bB w a l/\(0<l.length->∀x,a=some x->base<=x.block/\∀cur fr,w.heap[x.block]?≠some (.cells cur 5 fr))
theorem dN.moved{w w':World}{base:Nat}{a:Option Addr}{l:List Int}(h:dN w base a l)(hs:w.heap.size<=w'.heap.size)(hk:∀g,base<=g->g<w.heap.size->(∀cur fr,w.heap[g]?≠some (.cells cur 5 fr))->w'.heap[g]?=w.heap[g]?):dN w' base a l:=by
 refine⟨fun h0=>?_,fun h0 x ex=>?_⟩
 · obtain⟨g,o,e,hg,hc⟩:=h.1 h0;obtain⟨h1,h2⟩:=h.2 h0 _ e;refine⟨g,o,e,by omega,fun i hi=>?_⟩;rw[←hc i hi];exact World.cell?_of_block (w:=w) (hk g h1 hg h2)
 ·
  obtain⟨g,o,e,hg,hc⟩:=h.1 h0;obtain⟨h1,h2⟩:=h.2 h0 _ ex;have:x=⟨g,o,none⟩:=by rw[ex]at e;exact a08 e
  subst this;exact⟨h1,fun cur fr=>by rw[hk g h1 hg h2];exact h2 cur fr⟩
theorem dN.later{w w':World}{base:Nat}{a:Option Addr}{l:List Int}(h:dN w base a l)(hb:Below w.heap.size w w'):dN w' base a l:=h.moved hb.size (fun g _ hg _=>hb.block g hg)
theorem dN.mono{w:World}{base b':Nat}{a:Option Addr}{l:List Int}(h:dN w base a l)(hb:b'<=base):dN w b' a l:=⟨h.1,fun h0 x e=>⟨a0P hb (h.2 h0 x e).1,(h.2 h0 x e).2⟩⟩
theorem dN.touch{w w':World}{base b:Nat}{a:Option Addr}{l:List Int}(h:dN w base a l)(hs:w'.heap.size=w.heap.size)(hk:∀j,j≠b->w'.heap[j]?=w.heap[j]?)(hb:b<base):dN w' base a l:=h.moved (by omega) (fun g h1 _ _=>hk g (by omega))
theorem cn{w:World}{base n cap:Nat}{e:TypeId}{a:Option Addr}{l:List Int}(hn:l.length=n)(h:w.ownsRow base e 1 (.slice a n cap) n (l.map (Value.int .i64)))(he:e≠5:=by decide):dN w base a l:=by
 refine⟨Ho hn h,fun h0 x ex=>?_⟩;subst ex;refine⟨(a0y h x.block rfl).1,fun cur fr=>?_⟩;rcases h.2 with⟨e',_⟩|⟨g,cap',cur',e',hbg,hg,_⟩
 · cases e'
 ·
  simp only[a0L,a0j]at e';obtain⟨rfl,_⟩:=e';show w.heap[g]?≠_;rw[hg];intro e2;cases e2
  exact he rfl
def bm(w:World)(base:Nat)(l:List Int)(C:Array Value):Prop:=
 ∃a cap ac cc q sc,C=(aN (.slice a l.length cap) (.slice ac l.length cc) (.slice q (cB l 15).length sc) (fg l 15)).toArray/\dN w base a l/\dN w base ac (bz l 15).2/\dN w base q (cB l 15)
theorem bm.later{w w':World}{base:Nat}{l:List Int}{C:Array Value}(h:bm w base l C)(hb:Below w.heap.size w w'):bm w' base l C:=by
 obtain⟨a,cap,ac,cc,q,sc,e,h1,h2,h3⟩:=h;exact⟨a,cap,ac,cc,q,sc,e,h1.later hb,h2.later hb,h3.later hb⟩
theorem bm.mono{w:World}{base b':Nat}{l:List Int}{C:Array Value}(h:bm w base l C)(hb:b'<=base):bm w b' l C:=by
 obtain⟨a,cap,ac,cc,q,sc,e,h1,h2,h3⟩:=h;exact⟨a,cap,ac,cc,q,sc,e,h1.mono hb,h2.mono hb,h3.mono hb⟩
theorem bm.touch{w w':World}{base b:Nat}{l:List Int}{C:Array Value}(h:bm w base l C)(hs:w'.heap.size=w.heap.size)(hk:∀j,j≠b->w'.heap[j]?=w.heap[j]?)(hb:b<base):bm w' base l C:=by
 obtain⟨a,cap,ac,cc,q,sc,e,h1,h2,h3⟩:=h;exact⟨a,cap,ac,cc,q,sc,e,h1.touch hs hk hb,h2.touch hs hk hb,h3.touch hs hk hb⟩
theorem bm.size{w:World}{base:Nat}{l:List Int}{C:Array Value}(h:bm w base l C):C.size=19:=by
 obtain⟨a,cap,ac,cc,q,sc,e,_⟩:=h;rw[e];simp[bW]
theorem bm.one{w:World}{base:Nat}{l:List Int}{C:Array Value}(h:bm w base l C):C.all (·.oneCell')=true:=by
 obtain⟨a,cap,ac,cc,q,sc,e,_⟩:=h;rw[e];exact iA rfl rfl rfl
theorem oV(a:Option Addr)(cap n base:Nat)(l:List Int)(w:World)(hn:l.length=n)(h:dN w base a l)(hB:base<=w.heap.size)(hm:n<=300) :
  Calls Tryz.prog 140 #[.slice a n cap] w fun e w'=>(∃C,e = .returned (.agg C)/\bm w' base l C)/\Below w.heap.size w w':=by
 refine(Bkx.codeBook_any Bkx.bkL (.inl rfl) a cap n l w hn h.1 hm).mono ?_;rintro e w' ⟨vs,C,rfl,hC,h1,h2,hb⟩;obtain⟨q,sc,rfl⟩:=h2.form;subst hn;exact⟨⟨C,rfl,a,cap,_,_,q,sc,hC,h.later hb,(cn (dc l 15) (h1.own (dc l 15))).mono (by omega),(cn rfl h2).mono (by omega)⟩,hb⟩
theorem l9(k:Nat)(l:List Int)(C:Array Value)(base:Nat)(w:World)(hB:bm w base l C)(hk:k<l.length)(hm:l.length<=300) :
  Calls Tryz.prog 175 #[.agg C,.int .i64 (k:Int)] w fun e w'=>e = .returned (.agg #[.int .i64 (btI ((bz l 15).2.getD k 0) (l.getD k 0)),.int .i64 (l.getD k 0)])/\Below w.heap.size w w':=by
 obtain⟨a,cap,ac,cc,q,sc,e,h1,h2,h3⟩:=hB;exact Bkx.bookPut_any Bkx.bkL (.inl rfl) a ac cap l.length cc k _ _ C l (bz l 15).2 w e rfl (dc l 15) h1.1 h2.1 hk hm
theorem mH(a:Option Addr)(cap n base:Nat)(l:List Int)(w:World)(hn:l.length=n)(h:dN w base a l)(hB:base<=w.heap.size)(hm:n<=300) :
  Calls Tryz.prog 141 #[.slice a n cap] w fun e w'=>(∃C,e = .returned (.agg C)/\bm w' base l C)/\Below w.heap.size w w':=by
 refine(Bkx.codeBook_any Bkx.bkD (.inr (.inl rfl)) a cap n l w hn h.1 hm).mono ?_;rintro e w' ⟨vs,C,rfl,hC,h1,h2,hb⟩;obtain⟨q,sc,rfl⟩:=h2.form;subst hn;exact⟨⟨C,rfl,a,cap,_,_,q,sc,hC,h.later hb,(cn (dc l 15) (h1.own (dc l 15))).mono (by omega),(cn rfl h2).mono (by omega)⟩,hb⟩
theorem vQ(k:Nat)(l:List Int)(C:Array Value)(base:Nat)(w:World)(hB:bm w base l C)(hk:k<l.length)(hm:l.length<=300) :
  Calls Tryz.prog 209 #[.agg C,.int .i64 (k:Int)] w fun e w'=>e = .returned (.agg #[.int .i64 (btI ((bz l 15).2.getD k 0) (l.getD k 0)),.int .i64 (l.getD k 0)])/\Below w.heap.size w w':=by
 obtain⟨a,cap,ac,cc,q,sc,e,h1,h2,h3⟩:=hB;exact Bkx.bookPut_any Bkx.bkD (.inr (.inl rfl)) a ac cap l.length cc k _ _ C l (bz l 15).2 w e rfl (dc l 15) h1.1 h2.1 hk hm
def cY(w:World)(base:Nat)(L D:List Int)(C:Array Value):Prop:=∃C1 C2,C=C1++C2/\bm w base L C1/\bm w base D C2
theorem cY.later{w w':World}{base:Nat}{L D:List Int}{C:Array Value}(h:cY w base L D C)(hb:Below w.heap.size w w'):cY w' base L D C:=by
 obtain⟨C1,C2,e,h1,h2⟩:=h;exact⟨C1,C2,e,h1.later hb,h2.later hb⟩
theorem cY.size{w:World}{base:Nat}{L D:List Int}{C:Array Value}(h:cY w base L D C):C.size=38:=by
 obtain⟨C1,C2,rfl,h1,h2⟩:=h;rw[a2l,h1.size,h2.size]
theorem cY.one{w:World}{base:Nat}{L D:List Int}{C:Array Value}(h:cY w base L D C):C.all (·.oneCell')=true:=by
 obtain⟨C1,C2,rfl,h1,h2⟩:=h;rw[Array.all_append,h1.one,h2.one];rfl
theorem Tryz.infoBooks:(Tryz.prog.info? 184).map (·.size)=some 38:=by kernel_rfl
theorem Tryz.infoLitB:(Tryz.prog.info? 179).map (·.size)=some 19:=by kernel_rfl
theorem Tryz.infoDistB:(Tryz.prog.info? 182).map (·.size)=some 19:=by kernel_rfl
theorem fS{w:World}{b:Nat}{C1 C2:Array Value}{t:TypeId}(h:w.heap[b]?=some (Obj.cells (C1++C2) t))(h1:C1.size=19):w.rangeAt b 0 C1.toList/\w.rangeAt b 19 C2.toList:=by
 refine⟨fun j v hv=>?_,fun j v hv=>?_⟩
 ·
  have hj:j<C1.size:=by have:=(List.getElem?_eq_some_iff.1 hv).1;simpa using this
  rw[a0A];simp only[World.cell?,h];rw[Array.getElem?_append_left hj];simpa using hv
 · simp only[World.cell?,h];rw[Array.getElem?_append_right (by omega),h1,a1T];simpa using hv
theorem Tryz.builtBooks(l1 c1 s1 l2 c2 s2:Value)(m1 m2:Nat->Nat):Tryz.prog.built 184 [(0,.agg (aN l1 c1 s1 m1).toArray),(1,.agg (aN l2 c2 s2 m2).toArray)]=some ((aN l1 c1 s1 m1).toArray++(aN l2 c2 s2 m2).toArray):=by kernel_rfl
theorem jR{w:World}{base:Nat}{L D:List Int}{C1 C2:Array Value}(h1:bm w base L C1)(h2:bm w base D C2):Tryz.prog.built 184 [(0,.agg C1),(1,.agg C2)]=some (C1++C2):=by
 obtain⟨_,_,_,_,_,_,rfl,_⟩:=h1;obtain⟨_,_,_,_,_,_,rfl,_⟩:=h2;exact Tryz.builtBooks _ _ _ _ _ _ _ _
theorem CQ:dj 288=List.replicate 144 8++(List.replicate 112 9++(List.replicate 24 7++List.replicate 8 8)):=by decide +kernel
theorem kA(v:Int)(c cap g o:Nat)(w:World)(hv:w.cell? ⟨g,o,none⟩=some (.int .i64 v))(h1:1<=c)(hc:(c:Int)<=1000) :
  Calls Tryz.prog 115 #[.slice (some ⟨g,o,none⟩) 1 cap,.int .i64 (c:Nat)] w fun e w'=>(∃g',e = .returned (.slice (some ⟨g',0,none⟩) c c)/\ar w' w.heap.size (.slice (some ⟨g',0,none⟩) c c) (List.replicate c v))/\Below w.heap.size w w':=
 (mj v c cap g o w hv h1 hc).mono fun _ _ ⟨he,ho,hb⟩=>⟨⟨_,he,ho⟩,hb⟩
theorem zk(x:World)(a b c d:Value)(t:TypeId):(x.alloc (.cells #[a,b,c,d] t)).cell? ⟨x.heap.size,0,none⟩=some a/\(x.alloc (.cells #[a,b,c,d] t)).cell? ⟨x.heap.size,1,none⟩=some b/\(x.alloc (.cells #[a,b,c,d] t)).cell? ⟨x.heap.size,2,none⟩=some c/\(x.alloc (.cells #[a,b,c,d] t)).cell? ⟨x.heap.size,3,none⟩=some d:=⟨by simp,by simp,by simp,by simp⟩
theorem fN{w w':World}{b b':Nat}{v:Value}{l:List Int}(h:ar w b v l)(hb:Below w.heap.size w w')(hB:b'<=b):ar w' b' v l:=(h.later hb (a0a _)).mono hB
def iB:Array Value:=#[Value.slice none 0 0,Value.slice none 0 0,Value.int .i64 0,Value.int .i64 0,Value.int .i64 0,Value.int .i64 0,Value.int .i64 0,Value.int .i64 0,Value.int .i64 0,Value.int .i64 0,Value.int .i64 0,Value.int .i64 0,Value.int .i64 0,Value.int .i64 0,Value.int .i64 0,Value.int .i64 0,Value.int .i64 0,Value.int .i64 0,Value.slice none 0 0,Value.slice none 0 0,Value.slice none 0 0,Value.int .i64 0,Value.int .i64 0,Value.int .i64 0,Value.int .i64 0,Value.int .i64 0,Value.int .i64 0,Value.int .i64 0,Value.int .i64 0,Value.int .i64 0,Value.int .i64 0,Value.int .i64 0,Value.int .i64 0,Value.int .i64 0,Value.int .i64 0,Value.int .i64 0,Value.int .i64 0,Value.slice none 0 0]
theorem ig{ops:Array Oper}{rest:List Oper}{o:Oper}{a:Act}{w:World}{Q:Exit->Act->World->Prop}(hg:o.guard=none)(x y:Operand)(ho:o.op = .build 184 #[(0,x),(1,y)])(C1 C2:Array Value)(hx:a.eval x = .agg C1)(hy:a.eval y = .agg C2)
  (hb:Tryz.prog.built 184 [(0,.agg C1),(1,.agg C2)]=some (C1++C2)) (h:wpList Tryz.prog ops Q rest (a.put o.dst (.agg (C1++C2))) w):wpList Tryz.prog ops Q (o :: rest) a w:=by
 have e:((#[(0,x),(1,y)]:Array (Nat×Operand)).map fun(i,x)=>(i,a.eval x)).toList=[(0,.agg C1),(1,.agg C2)]:=by simp[hx,hy]
 refine wpList_build hg 184 #[(0,x),(1,y)] ho (by rw[e,hb];rfl) ?_;rw[e,hb];exact h
theorem cW(b:Nat):∀(vs:List Value) (o:Nat) (w:World) (j:Nat),j≠b->(w.setCells b o vs).heap[j]?=w.heap[j]?
 | [],_,_,_,_=>rfl
 | v :: r,o,w,j,hj=>by
  rw[World.setCells,cW b r _ _ _ hj];exact a0J w ⟨b,o,none⟩ v j hj
theorem one_cell(x:World)(v:Value)(t:TypeId):(x.alloc (.cells #[v] t)).cell? ⟨x.heap.size,0,none⟩=some v:=by simp
theorem cV(x:World)(o:Obj):(x.alloc o).heap.size=x.heap.size+1:=by simp
set_option maxRecDepth 100000 in
theorem jX(w:World) :
  Calls Tryz.prog 135 #[] w fun e w'=>(∃C,e = .returned (.agg C)/\cY w' (w.heap.size+1) (dj 288) (List.replicate 32 5) C)/\Below w.heap.size w w':=by
 obtain⟨W0,hW0⟩:∃W,w.alloc (.cells iB 184)=W:=⟨_,rfl⟩;have S0:W0.heap.size=w.heap.size+1:=by rw[←hW0];exact cV _ _
 have B0:Hid (Below w.heap.size w W0):=by rw[←hW0];exact(a0c _ _).alloc (a0a _) _
 have T0:Hid (W0.there w.heap.size 0 38):=by rw[←hW0];exact fJ w iB _ _ rfl
 have E0:=af hW0;unfold iB at E0;have S0':=af S0;clear hW0 S0;go_enter Tryz.func135,Tryz.ntmps135;go_wp2_with fail;rw[ae E0];have c1:(W0.alloc (.cells #[.int .i64 8] 3)).cell? ⟨w.heap.size+1,0,none⟩=some (.int .i64 8):=by rw[←ae S0'];exact one_cell _ _ _
 refine(kA 8 144 1 (w.heap.size+1) 0 _ c1 (by omega) (by omega)).mono ?_;rintro e x1 ⟨⟨g1,rfl,o1⟩,b1⟩;have hA1:Below W0.heap.size W0 x1:=aj ((a0c _ _).alloc (a0a _) _) b1;have O1:=af (o1.mono (base':=w.heap.size+1) (by rw[cV,ae S0'];omega));have A1:=af hA1;clear c1 o1 b1 hA1;go_wp2_with fail;refine(kA 9 112 1 x1.heap.size 0 _ (one_cell _ _ _) (by omega) (by omega)).mono ?_;rintro e x2 ⟨⟨g2,rfl,o2⟩,b2⟩;have hA2:=aj (ae A1) (aj ((a0c _ _).alloc (a0a _) _) b2);have O1':=af (fN (ae O1) (aj ((a0c _ _).alloc (a0a _) _) b2) (a0a _));have O2:=af (o2.mono (base':=w.heap.size+1) (by rw[cV];have:=(ae A1).size;have:=ae S0';omega));have A2:=af hA2;clear o2 b2 hA2 O1 A1;go_wp2_with fail;refine(kA 7 24 1 x2.heap.size 0 _ (one_cell _ _ _) (by omega) (by omega)).mono ?_;rintro e x3 ⟨⟨g3,rfl,o3⟩,b3⟩;have hA3:=aj (ae A2) (aj ((a0c _ _).alloc (a0a _) _) b3);have O1:=af (fN (ae O1') (aj ((a0c _ _).alloc (a0a _) _) b3) (a0a _));have O2':=af (fN (ae O2) (aj ((a0c _ _).alloc (a0a _) _) b3) (a0a _));have O3:=af (o3.mono (base':=w.heap.size+1) (by rw[cV];have:=(ae A2).size;have:=ae S0';omega));have A3:=af hA3;clear o3 b3 hA3 O1' O2 A2;go_wp2_with fail;refine(kA 8 8 1 x3.heap.size 0 _ (one_cell _ _ _) (by omega) (by omega)).mono ?_;rintro e x4 ⟨⟨g4,rfl,o4⟩,b4⟩;have hA4:=aj (ae A3) (aj ((a0c _ _).alloc (a0a _) _) b4);have O1':=af (fN (ae O1) (aj ((a0c _ _).alloc (a0a _) _) b4) (a0a _));have O2:=af (fN (ae O2') (aj ((a0c _ _).alloc (a0a _) _) b4) (a0a _));have O3':=af (fN (ae O3) (aj ((a0c _ _).alloc (a0a _) _) b4) (a0a _));have O4:=af (o4.mono (base':=w.heap.size+1) (by rw[cV];have:=(ae A3).size;have:=ae S0';omega));have A4:=af hA4;clear o4 b4 hA4 O1 O2' O3 A3;go_wp2_with fail;have hb5:Below x4.heap.size x4 (x4.alloc (.cells #[.slice (some ⟨g1,0,none⟩) 144 144,.slice (some ⟨g2,0,none⟩) 112 112,.slice (some ⟨g3,0,none⟩) 24 24,.slice (some ⟨g4,0,none⟩) 8 8] 146)):=(a0c _ _).alloc (a0a _) _;have hR:gu (x4.alloc (.cells #[.slice (some ⟨g1,0,none⟩) 144 144,.slice (some ⟨g2,0,none⟩) 112 112,.slice (some ⟨g3,0,none⟩) 24 24,.slice (some ⟨g4,0,none⟩) 8 8] 146)) x4.heap.size (w.heap.size+1) [(.slice (some ⟨g1,0,none⟩) 144 144,(List.replicate 144 8).map (Value.int .i64)),(.slice (some ⟨g2,0,none⟩) 112 112,(List.replicate 112 9).map (Value.int .i64)),(.slice (some ⟨g3,0,none⟩) 24 24,(List.replicate 24 7).map (Value.int .i64)),(.slice (some ⟨g4,0,none⟩) 8 8,(List.replicate 8 8).map (Value.int .i64))]:=by
  obtain⟨d0,d1,d2,d3⟩:=zk x4 (.slice (some ⟨g1,0,none⟩) 144 144) (.slice (some ⟨g2,0,none⟩) 112 112) (.slice (some ⟨g3,0,none⟩) 24 24) (.slice (some ⟨g4,0,none⟩) 8 8) 146;intro i hi
  match i,hi with
  | 0,_=>exact⟨d0,_,fN (ae O1') hb5 (a0a _),a2a .i64 _⟩
  | 1,_=>exact⟨d1,_,fN (ae O2) hb5 (a0a _),a2a .i64 _⟩
  | 2,_=>exact⟨d2,_,fN (ae O3') hb5 (a0a _),a2a .i64 _⟩
  | 3,_=>exact⟨d3,_,fN (ae O4) hb5 (a0a _),a2a .i64 _⟩
 have hlen:aF [(Value.slice (some ⟨g1,0,none⟩) 144 144,(List.replicate 144 8).map (Value.int .i64)),(.slice (some ⟨g2,0,none⟩) 112 112,(List.replicate 112 9).map (Value.int .i64)),(.slice (some ⟨g3,0,none⟩) 24 24,(List.replicate 24 7).map (Value.int .i64)),(.slice (some ⟨g4,0,none⟩) 8 8,(List.replicate 8 8).map (Value.int .i64))]=288:=by simp[aF,bE]
 have hall:cw [(Value.slice (some ⟨g1,0,none⟩) 144 144,(List.replicate 144 8).map (Value.int .i64)),(.slice (some ⟨g2,0,none⟩) 112 112,(List.replicate 112 9).map (Value.int .i64)),(.slice (some ⟨g3,0,none⟩) 24 24,(List.replicate 24 7).map (Value.int .i64)),(.slice (some ⟨g4,0,none⟩) 8 8,(List.replicate 8 8).map (Value.int .i64))]=(dj 288).map (Value.int .i64):=by
  rw[CQ];simp only[cw,a0W,a2Q,a0N,a1D]
 refine(nN x4.heap.size (w.heap.size+1) 4 4 _ _ rfl (by omega) (by omega) hR (by rw[hlen];omega)).mono ?_;rintro e x5 ⟨v,rfl,ho5,hb⟩;rw[hlen,hall]at ho5;have hA5:=aj (ae A4) (aj hb5 hb);have HO:ar x5 (w.heap.size+1) v (dj 288):=by
  have h0:ar x5 (x4.alloc (.cells #[.slice (some ⟨g1,0,none⟩) 144 144,.slice (some ⟨g2,0,none⟩) 112 112,.slice (some ⟨g3,0,none⟩) 24 24,.slice (some ⟨g4,0,none⟩) 8 8] 146)).heap.size v (dj 288):=by
   show World.ownsRow _ _ _ _ _ (dj 288).length _;rw[dG];exact ho5
  refine h0.mono ?_;rw[cV];have:=(ae A4).size;have:=ae S0';omega
 obtain⟨va,vc,rfl⟩:=HO.formN (dG 288);have J5:=af (cn (dG 288) (HO.own (dG 288)));have A5:=af hA5;have hs5:Hid (w.heap.size+1<=x5.heap.size):=by show _<=_;have:=hA5.size;have:=ae S0';omega
 clear hb5 hR hlen hall ho5 hb hA5 HO O1' O2 O3' O4 A4;go_wp2_with fail;refine(oV va vc 288 (w.heap.size+1) (dj 288) _ (dG 288) (ae J5) (ae hs5) (by omega)).mono ?_;rintro e x6 ⟨⟨C1,rfl,k1⟩,b6⟩;have A6:=af (aj (ae A5) b6);have K1:=af k1;clear k1 b6 J5 hs5 A5;go_wp2_with fail;refine(kA 5 32 1 x6.heap.size 0 _ (one_cell _ _ _) (by omega) (by omega)).mono ?_;rintro e x7 ⟨⟨g7,rfl,o7⟩,b7⟩;have hb7:=aj ((a0c _ _).alloc (a0a _) _) b7;have A7:=af (aj (ae A6) hb7);have K1':=af ((ae K1).later hb7);have J7:=af (cn (a0E ..) (ar.own (a0E ..) (o7.mono (base':=w.heap.size+1) (by rw[cV];have:=(ae A6).size;have:=ae S0';omega))));have hs7:Hid (w.heap.size+1<=x7.heap.size):=by show _<=_;have:=(ae A7).size;have:=ae S0';omega
 clear hb7 o7 b7 K1 A6;go_wp2_with fail;refine(mH (some ⟨g7,0,none⟩) 32 32 (w.heap.size+1) (List.replicate 32 5) _ (a0E ..) (ae J7) (ae hs7) (by omega)).mono ?_;rintro e x8 ⟨⟨C2,rfl,k2⟩,b8⟩;have A8:=af (aj (ae A7) b8);have K1:=af ((ae K1').later b8);have K2:=af k2;have HBu:=af (jR (ae K1) (ae K2));have HTh:Hid (x8.there w.heap.size 0 38):=fun j hj=>by
  obtain⟨h1,h2⟩:=ae T0 j hj;have hlt:w.heap.size<W0.heap.size:=by have:=ae S0';omega
  exact⟨by rw[(ae A8).cell (p:=⟨w.heap.size,0+j,none⟩) hlt];exact h1,by rw[(ae A8).frozen (p:=⟨w.heap.size,0+j,none⟩) hlt];exact h2⟩
 have hsz1:=(ae K1).size;have hsz2:=(ae K2).size;have HSz:Hid ((C1++C2).size=38):=by show _=_;rw[a2l,hsz1,hsz2]
 have H1C:Hid ((C1++C2).all (·.oneCell')=true):=by show _=true;rw[Array.all_append,(ae K1).one,(ae K2).one];rfl
 clear hsz1 hsz2 k2 b8 K1' J7 hs7 A7;go_wp2_with (first
  | (refine ig rfl (.tmp 13) (.tmp 16) rfl C1 C2 rfl rfl (ae HBu) ?_)
  | (refine a2J rfl 184 (.tmp 0) (.tmp 17) rfl w.heap.size 0 (C1++C2) rfl rfl (by rw[ae HSz];exact ae HTh) (by rw[ae HSz];exact Tryz.infoBooks) (ae H1C) ?_))
 have hr:=a2K x8 w.heap.size 0 (C1++C2).toList (by rw[a1G,ae HSz];exact ae HTh);have hk:∀j,j≠w.heap.size->(x8.setCells w.heap.size 0 (C1++C2).toList).heap[j]?=x8.heap[j]?:=fun j hj=>cW _ _ _ _ j hj;have hz:(x8.setCells w.heap.size 0 (C1++C2).toList).heap.size=x8.heap.size:=size_setCells _ _ _ _;refine a0K (dQ rfl _ _ w.heap.size _ _ rfl hr a3p rfl (by rw[a1G,ae HSz];exact Tryz.infoBooks)) rfl ⟨⟨C1++C2,by simp,C1,C2,rfl,(ae K1).touch hz hk (a0m _),(ae K2).touch hz hk (a0m _)⟩,?_⟩;exact below_setCells (a0a _) _ _ _ (aj (ae B0) (ae A8))
end Go.Proofs.YtkdlcomfpffhhaaGreatDoor
