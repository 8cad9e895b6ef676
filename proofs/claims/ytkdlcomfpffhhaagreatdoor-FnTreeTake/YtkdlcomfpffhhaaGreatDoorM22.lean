/- Of what the proof is made: 2 texts, one behind the other. -/
import Derived.Test.YtkdlcomfpffhhaaGreatDoorM11
import Derived.Test.YtkdlcomfpffhhaaGreatDoorM14
import Derived.Test.YtkdlcomfpffhhaaGreatDoorM13
import Derived.Test.YtkdlcomfpffhhaaGreatDoorM8
import Derived.Laws.Tables
import Derived.Test.YtkdlcomfpffhhaaGreatDoorM10
set_option maxRecDepth 100000
set_option linter.unusedSimpArgs false
set_option linter.unusedVariables false
set_option maxHeartbeats 3200000
namespace Go.Proofs.YtkdlcomfpffhhaaGreatDoor
open Go.Proofs.Tryz
open Go.RowKit Corb
variable {C:Array Value}{D L l:List Int}{a:Option Addr}{b b':Nat}{w w':World}
theorem yS{base n cap:Nat}{e:TypeId}(j:l.length=n)(h:w.ownsRow base e 1 (.slice a n cap) n (l.map (Value.int .i64))):bn w a l:=by
 subst j;intro k;rcases h.2 with⟨_,m⟩|⟨g,b,c,e,hb,d,o⟩
 . omega
 . simp only[a0O]at e;obtain⟨rfl,_,rfl⟩:=e;refine⟨g,0,rfl,(Array.getElem?_eq_some_iff.1 d).1,fun i f=>?_⟩;have c1:=a02 h i (by omega);rw[a0B,c1];simp[List.getD,f]
def bT(w:World)(base:Nat)(a:Option Addr)(l:List Int):Prop:=bn w a l/\(0<l.length->∀x,a=some x->base<=x.block/\∀cur fr,w.heap[x.block]?≠some (.cells cur 5 fr))
theorem bT.moved{base:Nat}(h:bT w base a l)(n:w.heap.size<=w'.heap.size)(k:∀g,base<=g->g<w.heap.size->(∀b fr,w.heap[g]?≠some (.cells b 5 fr))->w'.heap[g]?=w.heap[g]?):bT w' base a l:=by
 refine⟨fun c=>?_,fun c x ex=>?_⟩
 . obtain⟨g,o,e,f,j⟩:=h.1 c;obtain⟨d,h2⟩:=h.2 c _ e;refine⟨g,o,e,by omega,fun i m=>?_⟩;rw[←j i m];exact World.cell?_of_block (w:=w) (k g d f h2)
 .
  obtain⟨g,o,e,f,j⟩:=h.1 c;obtain⟨d,h2⟩:=h.2 c _ ex;have:x=⟨g,o,none⟩:=by rw[ex]at e;exact a0Z e
  subst this;exact⟨d,fun b fr=>by rw[k g d f h2];exact h2 b fr⟩
theorem bT.later{base:Nat}(h:bT w base a l)(hb:Below w.heap.size w w'):bT w' base a l:=h.moved hb.size (fun g _ b _=>hb.block g b)
theorem bT.mono{base:Nat}(h:bT w base a l)(hb:b'<=base):bT w b' a l:=⟨h.1,fun b x e=>⟨a0G hb (h.2 b x e).1,(h.2 b x e).2⟩⟩
theorem bT.touch{base:Nat}(h:bT w base a l)(e:w'.heap.size=w.heap.size)(c:∀j,j≠b->w'.heap[j]?=w.heap[j]?)(hb:b<base):bT w' base a l:=h.moved (by omega) (fun g d _ _=>c g (by omega))
theorem bU{base n cap:Nat}{e:TypeId}(k:l.length=n)(h:w.ownsRow base e 1 (.slice a n cap) n (l.map (Value.int .i64)))(i:e≠5:=by decide):bT w base a l:=by
 refine⟨yS k h,fun m x ex=>?_⟩;subst ex;refine⟨(a0p h x.block rfl).1,fun d fr=>?_⟩;rcases h.2 with⟨e',_⟩|⟨g,b,c,e',f,j,_⟩
 . cases e'
 .
  simp only[a0O,a0m]at e';obtain⟨rfl,_⟩:=e';show w.heap[g]?≠_;rw[j];intro e2;cases e2
  exact i rfl
def bE(w:World)(base:Nat)(l:List Int)(C:Array Value):Prop:=
 ∃a cap ac cc q sc,C=(aW (.slice a l.length cap) (.slice ac l.length cc) (.slice q (cK l 15).length sc) (fF l 15)).toArray/\bT w base a l/\bT w base ac (a8 l 15).2/\bT w base q (cK l 15)
theorem bE.later{base:Nat}(h:bE w base l C)(hb:Below w.heap.size w w'):bE w' base l C:=by
 obtain⟨a,cap,ac,b,q,sc,e,c,h2,d⟩:=h;exact⟨a,cap,ac,b,q,sc,e,c.later hb,h2.later hb,d.later hb⟩
theorem bE.mono{base:Nat}(h:bE w base l C)(hb:b'<=base):bE w b' l C:=by
 obtain⟨a,cap,ac,b,q,sc,e,c,h2,d⟩:=h;exact⟨a,cap,ac,b,q,sc,e,c.mono hb,h2.mono hb,d.mono hb⟩
theorem bE.touch{base:Nat}(h:bE w base l C)(d:w'.heap.size=w.heap.size)(c:∀j,j≠b->w'.heap[j]?=w.heap[j]?)(hb:b<base):bE w' base l C:=by
 obtain⟨a,cap,ac,f,q,sc,e,g,h2,i⟩:=h;exact⟨a,cap,ac,f,q,sc,e,g.touch d c hb,h2.touch d c hb,i.touch d c hb⟩
theorem bE.size{base:Nat}(h:bE w base l C):C.size=19:=by
 obtain⟨a,cap,ac,b,q,sc,e,_⟩:=h;rw[e];simp[ci]
theorem bE.one{base:Nat}(h:bE w base l C):C.all (·.oneCell')=true:=by
 obtain⟨a,cap,ac,b,q,sc,e,_⟩:=h;rw[e];exact iW rfl rfl rfl
theorem yl(a:Option Addr)(cap n base:Nat)(l:List Int)(w:World)(b:l.length=n)(h:bT w base a l)(g:base<=w.heap.size)(f:n<=300) :
  Calls prog 140 #[.slice a n cap] w fun e w'=>(∃C,e = .returned (.agg C)/\bE w' base l C)/\Below w.heap.size w w':=by
 refine(Bkx.codeBook_any Bkx.bkL (.inl rfl) a cap n l w b h.1 f).mono ?_;rintro e w' ⟨vs,C,rfl,d,c,h2,hb⟩;obtain⟨q,sc,rfl⟩:=h2.form;subst b;exact⟨⟨C,rfl,a,cap,_,_,q,sc,d,h.later hb,(bU (bK l 15) (c.own (bK l 15))).mono (by omega),(bU rfl h2).mono (by omega)⟩,hb⟩
theorem vH(a:Option Addr)(cap n base:Nat)(l:List Int)(w:World)(b:l.length=n)(h:bT w base a l)(g:base<=w.heap.size)(f:n<=300) :
  Calls prog 141 #[.slice a n cap] w fun e w'=>(∃C,e = .returned (.agg C)/\bE w' base l C)/\Below w.heap.size w w':=by
 refine(Bkx.codeBook_any Bkx.bkD (.inr (.inl rfl)) a cap n l w b h.1 f).mono ?_;rintro e w' ⟨vs,C,rfl,d,c,h2,hb⟩;obtain⟨q,sc,rfl⟩:=h2.form;subst b;exact⟨⟨C,rfl,a,cap,_,_,q,sc,d,h.later hb,(bU (bK l 15) (c.own (bK l 15))).mono (by omega),(bU rfl h2).mono (by omega)⟩,hb⟩
def eA(w:World)(base:Nat)(L D:List Int)(C:Array Value):Prop:=∃C1 C2,C=C1++C2/\bE w base L C1/\bE w base D C2
theorem eA.later{base:Nat}(h:eA w base L D C)(hb:Below w.heap.size w w'):eA w' base L D C:=by
 obtain⟨a,b,e,c,h2⟩:=h;exact⟨a,b,e,c.later hb,h2.later hb⟩
theorem eA.size{base:Nat}(h:eA w base L D C):C.size=38:=by
 obtain⟨b,c,rfl,a,h2⟩:=h;rw[a28,a.size,h2.size]
theorem eA.one{base:Nat}(h:eA w base L D C):C.all (·.oneCell')=true:=by
 obtain⟨b,c,rfl,a,h2⟩:=h;rw[Array.all_append,a.one,h2.one];rfl
theorem Tryz.infoBooks:(prog.info? 184).map (·.size)=some 38:=by kernel_rfl
theorem Tryz.infoLitB:(prog.info? 179).map (·.size)=some 19:=by kernel_rfl
theorem Tryz.infoDistB:(prog.info? 182).map (·.size)=some 19:=by kernel_rfl
theorem pJ{a d:Array Value}{t:TypeId}(h:w.heap[b]?=some (Obj.cells (a++d) t))(e:a.size=19):w.rangeAt b 0 a.toList/\w.rangeAt b 19 d.toList:=by
 refine⟨fun j v c=>?_,fun j v c=>?_⟩
 .
  have f:j<a.size:=by have:=(List.getElem?_eq_some_iff.1 c).1;simpa using this
  rw[a0B];simp only[World.cell?,h];rw[Array.getElem?_append_left f];simpa using c
 . simp only[World.cell?,h];rw[Array.getElem?_append_right (by omega),e,a2o];simpa using c
theorem Tryz.builtBooks(l1 c1 s1 l2 c2 s2:Value)(m1 m2:Nat->Nat):prog.built 184 [(0,.agg (aW l1 c1 s1 m1).toArray),(1,.agg (aW l2 c2 s2 m2).toArray)]=some ((aW l1 c1 s1 m1).toArray++(aW l2 c2 s2 m2).toArray):=by kernel_rfl
theorem pK{base:Nat}{a b:Array Value}(c:bE w base L a)(h2:bE w base D b):prog.built 184 [(0,.agg a),(1,.agg b)]=some (a++b):=by
 obtain⟨_,_,_,_,_,_,rfl,_⟩:=c;obtain⟨_,_,_,_,_,_,rfl,_⟩:=h2;exact Tryz.builtBooks _ _ _ _ _ _ _ _
theorem El:c9 288=List.replicate 144 8++(List.replicate 112 9++(List.replicate 24 7++List.replicate 8 8)):=by decide +kernel
theorem kW(v:Int)(c cap g o:Nat)(w:World)(h:w.cell? ⟨g,o,none⟩=some (.int .i64 v))(a:1<=c)(b:(c:Int)<=1000) :
  Calls prog 115 #[.slice (some ⟨g,o,none⟩) 1 cap,.int .i64 (c:Nat)] w fun e w'=>(∃g',e = .returned (.slice (some ⟨g',0,none⟩) c c)/\ax w' w.heap.size (.slice (some ⟨g',0,none⟩) c c) (List.replicate c v))/\Below w.heap.size w w':=
 (mV v c cap g o w h a b).mono fun _ _ ⟨d,f,hb⟩=>⟨⟨_,d,f⟩,hb⟩
theorem AG(x:World)(a b c d:Value)(t:TypeId):(x.alloc (.cells #[a,b,c,d] t)).cell? ⟨x.heap.size,0,none⟩=some a/\(x.alloc (.cells #[a,b,c,d] t)).cell? ⟨x.heap.size,1,none⟩=some b/\(x.alloc (.cells #[a,b,c,d] t)).cell? ⟨x.heap.size,2,none⟩=some c/\(x.alloc (.cells #[a,b,c,d] t)).cell? ⟨x.heap.size,3,none⟩=some d:=⟨by simp,by simp,by simp,by simp⟩
theorem gm{v:Value}(h:ax w b v l)(hb:Below w.heap.size w w')(a:b'<=b):ax w' b' v l:=(h.later hb (a0a _)).mono a
def An:Array Value:=#[Value.slice none 0 0,Value.slice none 0 0,Value.int .i64 0,Value.int .i64 0,Value.int .i64 0,Value.int .i64 0,Value.int .i64 0,Value.int .i64 0,Value.int .i64 0,Value.int .i64 0,Value.int .i64 0,Value.int .i64 0,Value.int .i64 0,Value.int .i64 0,Value.int .i64 0,Value.int .i64 0,Value.int .i64 0,Value.int .i64 0,Value.slice none 0 0,Value.slice none 0 0,Value.slice none 0 0,Value.int .i64 0,Value.int .i64 0,Value.int .i64 0,Value.int .i64 0,Value.int .i64 0,Value.int .i64 0,Value.int .i64 0,Value.int .i64 0,Value.int .i64 0,Value.int .i64 0,Value.int .i64 0,Value.int .i64 0,Value.int .i64 0,Value.int .i64 0,Value.int .i64 0,Value.int .i64 0,Value.slice none 0 0]
theorem nl{ops:Array Oper}{rest:List Oper}{o:Oper}{a:Act}{Q:Exit->Act->World->Prop}(d:o.guard=none)(x y:Operand)(f:o.op = .build 184 #[(0,x),(1,y)])(b c:Array Value)(g:a.eval x = .agg b)(j:a.eval y = .agg c)
  (hb:prog.built 184 [(0,.agg b),(1,.agg c)]=some (b++c)) (h:wpList prog ops Q rest (a.put o.dst (.agg (b++c))) w):wpList prog ops Q (o :: rest) a w:=by
 have e:((#[(0,x),(1,y)]:Array (Nat×Operand)).map fun(i,x)=>(i,a.eval x)).toList=[(0,.agg b),(1,.agg c)]:=by simp[g,j]
 refine wpList_build d 184 #[(0,x),(1,y)] f (by rw[e,hb];rfl) ?_;rw[e,hb];exact h
theorem cZ(b:Nat):∀(vs:List Value) (o:Nat) (w:World) (j:Nat),j≠b->(w.setCells b o vs).heap[j]?=w.heap[j]?
 | [],_,_,_,_=>rfl
 | v :: r,o,w,j,hj=>by
  rw[World.setCells,cZ b r _ _ _ hj];exact a0T w ⟨b,o,none⟩ v j hj
theorem one_cell(x:World)(v:Value)(t:TypeId):(x.alloc (.cells #[v] t)).cell? ⟨x.heap.size,0,none⟩=some v:=by simp
theorem dt(x:World)(o:Obj):(x.alloc o).heap.size=x.heap.size+1:=by simp
theorem rt(w:World) :
  Calls prog 135 #[] w fun e w'=>(∃C,e = .returned (.agg C)/\eA w' (w.heap.size+1) (c9 288) (List.replicate 32 5) C)/\Below w.heap.size w w':=by
 obtain⟨W0,hW0⟩:∃W,w.alloc (.cells An 184)=W:=⟨_,rfl⟩;have S0:W0.heap.size=w.heap.size+1:=by rw[←hW0];exact dt _ _
 have T:Hid (Below w.heap.size w W0):=by rw[←hW0];exact(a0c _ _).alloc (a0a _) _
 have T0:Hid (W0.there w.heap.size 0 38):=by rw[←hW0];exact jw w An _ _ rfl
 have E0:=af hW0;unfold An at E0;have S0':=af S0;clear hW0 S0;go_enter func135,ntmps135;go_wp2_with fail;rw[ae E0];have c1:(W0.alloc (.cells #[.int .i64 8] 3)).cell? ⟨w.heap.size+1,0,none⟩=some (.int .i64 8):=by rw[←ae S0'];exact one_cell _ _ _
 refine(kW 8 144 1 (w.heap.size+1) 0 _ c1 (by omega) (by omega)).mono ?_;rintro e x1 ⟨⟨g1,rfl,o1⟩,L⟩;have t:Below W0.heap.size W0 x1:=am ((a0c _ _).alloc (a0a _) _) L;have O1:=af (o1.mono (base':=w.heap.size+1) (by rw[dt,ae S0'];omega));have A1:=af t;clear c1 o1 L t;go_wp2_with fail;refine(kW 9 112 1 x1.heap.size 0 _ (one_cell _ _ _) (by omega) (by omega)).mono ?_;rintro e x2 ⟨⟨g2,rfl,o2⟩,I⟩;have u:=am (ae A1) (am ((a0c _ _).alloc (a0a _) _) I);have O1':=af (gm (ae O1) (am ((a0c _ _).alloc (a0a _) _) I) (a0a _));have O2:=af (o2.mono (base':=w.heap.size+1) (by rw[dt];have:=(ae A1).size;have:=ae S0';omega));have A2:=af u;clear o2 I u O1 A1;go_wp2_with fail;refine(kW 7 24 1 x2.heap.size 0 _ (one_cell _ _ _) (by omega) (by omega)).mono ?_;rintro e x3 ⟨⟨g3,rfl,o3⟩,E⟩;have x:=am (ae A2) (am ((a0c _ _).alloc (a0a _) _) E);have O1:=af (gm (ae O1') (am ((a0c _ _).alloc (a0a _) _) E) (a0a _));have O2':=af (gm (ae O2) (am ((a0c _ _).alloc (a0a _) _) E) (a0a _));have O3:=af (o3.mono (base':=w.heap.size+1) (by rw[dt];have:=(ae A2).size;have:=ae S0';omega));have A3:=af x;clear o3 E x O1' O2 A2;go_wp2_with fail;refine(kW 8 8 1 x3.heap.size 0 _ (one_cell _ _ _) (by omega) (by omega)).mono ?_;rintro e x4 ⟨⟨g4,rfl,o4⟩,s⟩;have y:=am (ae A3) (am ((a0c _ _).alloc (a0a _) _) s);have O1':=af (gm (ae O1) (am ((a0c _ _).alloc (a0a _) _) s) (a0a _));have O2:=af (gm (ae O2') (am ((a0c _ _).alloc (a0a _) _) s) (a0a _));have O3':=af (gm (ae O3) (am ((a0c _ _).alloc (a0a _) _) s) (a0a _));have O4:=af (o4.mono (base':=w.heap.size+1) (by rw[dt];have:=(ae A3).size;have:=ae S0';omega));have A4:=af y;clear o4 s y O1 O2' O3 A3;go_wp2_with fail;have a:Below x4.heap.size x4 (x4.alloc (.cells #[.slice (some ⟨g1,0,none⟩) 144 144,.slice (some ⟨g2,0,none⟩) 112 112,.slice (some ⟨g3,0,none⟩) 24 24,.slice (some ⟨g4,0,none⟩) 8 8] 146)):=(a0c _ _).alloc (a0a _) _;have O:jC (x4.alloc (.cells #[.slice (some ⟨g1,0,none⟩) 144 144,.slice (some ⟨g2,0,none⟩) 112 112,.slice (some ⟨g3,0,none⟩) 24 24,.slice (some ⟨g4,0,none⟩) 8 8] 146)) x4.heap.size (w.heap.size+1) [(.slice (some ⟨g1,0,none⟩) 144 144,(List.replicate 144 8).map (Value.int .i64)),(.slice (some ⟨g2,0,none⟩) 112 112,(List.replicate 112 9).map (Value.int .i64)),(.slice (some ⟨g3,0,none⟩) 24 24,(List.replicate 24 7).map (Value.int .i64)),(.slice (some ⟨g4,0,none⟩) 8 8,(List.replicate 8 8).map (Value.int .i64))]:=by
  obtain⟨U,V,X,Y⟩:=AG x4 (.slice (some ⟨g1,0,none⟩) 144 144) (.slice (some ⟨g2,0,none⟩) 112 112) (.slice (some ⟨g3,0,none⟩) 24 24) (.slice (some ⟨g4,0,none⟩) 8 8) 146;intro i hi
  match i,hi with
  | 0,_=>exact⟨U,_,gm (ae O1') a (a0a _),a2c .i64 _⟩
  | 1,_=>exact⟨V,_,gm (ae O2) a (a0a _),a2c .i64 _⟩
  | 2,_=>exact⟨X,_,gm (ae O3') a (a0a _),a2c .i64 _⟩
  | 3,_=>exact⟨Y,_,gm (ae O4) a (a0a _),a2c .i64 _⟩
 have b:aS [(Value.slice (some ⟨g1,0,none⟩) 144 144,(List.replicate 144 8).map (Value.int .i64)),(.slice (some ⟨g2,0,none⟩) 112 112,(List.replicate 112 9).map (Value.int .i64)),(.slice (some ⟨g3,0,none⟩) 24 24,(List.replicate 24 7).map (Value.int .i64)),(.slice (some ⟨g4,0,none⟩) 8 8,(List.replicate 8 8).map (Value.int .i64))]=288:=by simp[aS,cw]
 have g:ff [(Value.slice (some ⟨g1,0,none⟩) 144 144,(List.replicate 144 8).map (Value.int .i64)),(.slice (some ⟨g2,0,none⟩) 112 112,(List.replicate 112 9).map (Value.int .i64)),(.slice (some ⟨g3,0,none⟩) 24 24,(List.replicate 24 7).map (Value.int .i64)),(.slice (some ⟨g4,0,none⟩) 8 8,(List.replicate 8 8).map (Value.int .i64))]=(c9 288).map (Value.int .i64):=by
  rw[El];simp only[ff,a1c,a2s,a1d,a1r]
 refine(D8 x4.heap.size (w.heap.size+1) 4 4 _ _ rfl (by omega) (by omega) O (by rw[b];omega)).mono ?_;rintro e x5 ⟨v,rfl,o,hb⟩;rw[b,g]at o;have m:=am (ae A4) (am a hb);have H:ax x5 (w.heap.size+1) v (c9 288):=by
  have Z:ax x5 (x4.alloc (.cells #[.slice (some ⟨g1,0,none⟩) 144 144,.slice (some ⟨g2,0,none⟩) 112 112,.slice (some ⟨g3,0,none⟩) 24 24,.slice (some ⟨g4,0,none⟩) 8 8] 146)).heap.size v (c9 288):=by
   show World.ownsRow _ _ _ _ _ (c9 288).length _;rw[df];exact o
  refine Z.mono ?_;rw[dt];have:=(ae A4).size;have:=ae S0';omega
 obtain⟨va,vc,rfl⟩:=H.formN (df 288);have J5:=af (bU (df 288) (H.own (df 288)));have A5:=af m;have A:Hid (w.heap.size+1<=x5.heap.size):=by show _<=_;have:=m.size;have:=ae S0';omega
 clear a O b g o hb m H O1' O2 O3' O4 A4;go_wp2_with fail;refine(yl va vc 288 (w.heap.size+1) (c9 288) _ (df 288) (ae J5) (ae A) (by omega)).mono ?_;rintro e x6 ⟨⟨c,rfl,R⟩,M⟩;have A6:=af (am (ae A5) M);have l:=af R;clear R M J5 A A5;go_wp2_with fail;refine(kW 5 32 1 x6.heap.size 0 _ (one_cell _ _ _) (by omega) (by omega)).mono ?_;rintro e x7 ⟨⟨g7,rfl,o7⟩,N⟩;have n:=am ((a0c _ _).alloc (a0a _) _) N;have A7:=af (am (ae A6) n);have r:=af ((ae l).later n);have J7:=af (bU (a0A ..) (ax.own (a0A ..) (o7.mono (base':=w.heap.size+1) (by rw[dt];have:=(ae A6).size;have:=ae S0';omega))));have B:Hid (w.heap.size+1<=x7.heap.size):=by show _<=_;have:=(ae A7).size;have:=ae S0';omega
 clear n o7 N l A6;go_wp2_with fail;refine(vH (some ⟨g7,0,none⟩) 32 32 (w.heap.size+1) (List.replicate 32 5) _ (a0A ..) (ae J7) (ae B) (by omega)).mono ?_;rintro e x8 ⟨⟨d,rfl,S⟩,J⟩;have A8:=af (am (ae A7) J);have l:=af ((ae r).later J);have D:=af S;have G:=af (pK (ae l) (ae D));have q:Hid (x8.there w.heap.size 0 38):=fun j K=>by
  obtain⟨h1,h2⟩:=ae T0 j K;have z:w.heap.size<W0.heap.size:=by have:=ae S0';omega
  exact⟨by rw[(ae A8).cell (p:=⟨w.heap.size,0+j,none⟩) z];exact h1,by rw[(ae A8).frozen (p:=⟨w.heap.size,0+j,none⟩) z];exact h2⟩
 have h:=(ae l).size;have k:=(ae D).size;have f:Hid ((c++d).size=38):=by show _=_;rw[a28,h,k]
 have F:Hid ((c++d).all (·.oneCell')=true):=by show _=true;rw[Array.all_append,(ae l).one,(ae D).one];rfl
 clear h k S J r J7 B A7;go_wp2_with (first
  | (refine nl rfl (.tmp 13) (.tmp 16) rfl c d rfl rfl (ae G) ?_)
  | (refine a3N rfl 184 (.tmp 0) (.tmp 17) rfl w.heap.size 0 (c++d) rfl rfl (by rw[ae f];exact ae q) (by rw[ae f];exact Tryz.infoBooks) (ae F) ?_))
 have hr:=a3O x8 w.heap.size 0 (c++d).toList (by rw[a2n,ae f];exact ae q);have P:∀j,j≠w.heap.size->(x8.setCells w.heap.size 0 (c++d).toList).heap[j]?=x8.heap[j]?:=fun j K=>cZ _ _ _ _ j K;have Q:(x8.setCells w.heap.size 0 (c++d).toList).heap.size=x8.heap.size:=size_setCells _ _ _ _;refine a0R (ew rfl _ _ w.heap.size _ _ rfl hr underlying184 rfl (by rw[a2n,ae f];exact Tryz.infoBooks)) rfl ⟨⟨c++d,by simp,c,d,rfl,(ae l).touch Q P (a0l _),(ae D).touch Q P (a0l _)⟩,?_⟩;exact below_setCells (a0a _) _ _ _ (am (ae T) (ae A8))
end Go.Proofs.YtkdlcomfpffhhaaGreatDoor
