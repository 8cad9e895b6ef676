/- Texts. -/
import Derived.Test.YtfannoajibacnaaGreatDoorM13
import Derived.Test.YtfannoajibacnaaGreatDoorM18
import Derived.Test.YtfannoajibacnaaGreatDoorM14
set_option linter.all false
set_option maxRecDepth 100000
set_option maxHeartbeats 3200000
namespace Go.Proofs.YtfannoajibacnaaGreatDoor
open Go.Proofs.Tryz
open Go.RowKit Corb
variable {C:Array Value}{D L l:List Int}{a:Option Addr}{b b':Nat}{w w':World}
def ES{base n cap:Nat}{e:TypeId}(j:l.length=n)(h:w.ownsRow base e 1 (.slice a n cap) n (l.map (Value.int .i64))):bE w a l:=by
 subst j;intro k;rcases h.2 with⟨_,m⟩|⟨g,b,c,e,hb,d,o⟩
 . omega
 . simp only[a0L]at e;obtain⟨rfl,_,rfl⟩:=e;refine⟨g,0,rfl,(Array.getElem?_eq_some_iff.1 d).1,fun i f=>?_⟩;have c1:=a1f h i (by omega);rw[a0G,c1];simp[List.getD,f]
def de(w:World)(base:Nat)(a:Option Addr)(l:List Int):Prop:=bE w a l/\(0<l.length->∀x,a=some x->base<=x.block/\∀cur fr,w.heap[x.block]?≠some (.cells cur 5 fr))
def de.moved{base:Nat}(h:de w base a l)(n:w.heap.size<=w'.heap.size)(k:∀g,base<=g->g<w.heap.size->(∀b fr,w.heap[g]?≠some (.cells b 5 fr))->w'.heap[g]?=w.heap[g]?):de w' base a l:=by
 refine⟨fun c=>?_,fun c x ex=>?_⟩
 . obtain⟨g,o,e,f,j⟩:=h.1 c;obtain⟨d,h2⟩:=h.2 c _ e;refine⟨g,o,e,by omega,fun i m=>?_⟩;rw[←j i m];exact World.cell?_of_block (w:=w) (k g d f h2)
 .
  obtain⟨g,o,e,f,j⟩:=h.1 c;obtain⟨d,h2⟩:=h.2 c _ ex;have:x=⟨g,o,none⟩:=by rw[ex]at e;exact a1A e
  subst this;exact⟨d,fun b fr=>by rw[k g d f h2];exact h2 b fr⟩
def de.later{base:Nat}(h:de w base a l)(hb:Below w.heap.size w w'):de w' base a l:=h.moved hb.size (fun g _ b _=>hb.block g b)
def de.mono{base:Nat}(h:de w base a l)(hb:b'<=base):de w b' a l:=⟨h.1,fun b x e=>⟨a0E hb (h.2 b x e).1,(h.2 b x e).2⟩⟩
def de.touch{base:Nat}(h:de w base a l)(e:w'.heap.size=w.heap.size)(c:∀j,j≠b->w'.heap[j]?=w.heap[j]?)(hb:b<base):de w' base a l:=h.moved (by omega) (fun g d _ _=>c g (by omega))
def bX{base n cap:Nat}{e:TypeId}(k:l.length=n)(h:w.ownsRow base e 1 (.slice a n cap) n (l.map (Value.int .i64)))(i:e≠5:=by decide):de w base a l:=by
 refine⟨ES k h,fun m x ex=>?_⟩;subst ex;refine⟨(a0z h x.block rfl).1,fun d fr=>?_⟩;rcases h.2 with⟨e',_⟩|⟨g,b,c,e',f,j,_⟩
 . cases e'
 .
  simp only[a0L,a0l]at e';obtain⟨rfl,_⟩:=e';show w.heap[g]?≠_;rw[j];intro e2;cases e2
  exact i rfl
def cf(w:World)(base:Nat)(l:List Int)(C:Array Value):Prop:=
 ∃a cap ac cc q sc,C=(bz (.slice a l.length cap) (.slice ac l.length cc) (.slice q (dU l 15).length sc) (iK l 15)).toArray/\de w base a l/\de w base ac (aW l 15).2/\de w base q (dU l 15)
def cf.later{base:Nat}(h:cf w base l C)(hb:Below w.heap.size w w'):cf w' base l C:=by
 obtain⟨a,cap,ac,b,q,sc,e,c,h2,d⟩:=h;exact⟨a,cap,ac,b,q,sc,e,c.later hb,h2.later hb,d.later hb⟩
def cf.mono{base:Nat}(h:cf w base l C)(hb:b'<=base):cf w b' l C:=by
 obtain⟨a,cap,ac,b,q,sc,e,c,h2,d⟩:=h;exact⟨a,cap,ac,b,q,sc,e,c.mono hb,h2.mono hb,d.mono hb⟩
def cf.touch{base:Nat}(h:cf w base l C)(d:w'.heap.size=w.heap.size)(c:∀j,j≠b->w'.heap[j]?=w.heap[j]?)(hb:b<base):cf w' base l C:=by
 obtain⟨a,cap,ac,f,q,sc,e,g,h2,i⟩:=h;exact⟨a,cap,ac,f,q,sc,e,g.touch d c hb,h2.touch d c hb,i.touch d c hb⟩
def cf.size{base:Nat}(h:cf w base l C):C.size=19:=by
 obtain⟨a,cap,ac,b,q,sc,e,_⟩:=h;rw[e];simp[eq]
def cf.one{base:Nat}(h:cf w base l C):C.all (·.oneCell')=true:=by
 obtain⟨a,cap,ac,b,q,sc,e,_⟩:=h;rw[e];exact lG rfl rfl rfl
def uj(a:Option Addr)(cap n base:Nat)(l:List Int)(w:World)(b:l.length=n)(h:de w base a l)(g:base<=w.heap.size)(f:n<=300) :
  Calls prog 153 #[.slice a n cap] w fun e w'=>(∃C,e = .returned (.agg C)/\cf w' base l C)/\Below w.heap.size w w':=by
 apply(Bkx.codeBook_any Bkx.bkL (.inl rfl) a cap n l w b h.1 f).mono;rintro e w'⟨vs,C,rfl,d,c,h2,hb⟩;obtain⟨q,sc,rfl⟩:=h2.form;subst b;exact⟨⟨C,rfl,a,cap,_,_,q,sc,d,h.later hb,(bX (bJ l 15) (c.own (bJ l 15))).mono (by omega),(bX rfl h2).mono (by omega)⟩,hb⟩
def qh(k:Nat)(l:List Int)(C:Array Value)(base:Nat)(w:World)(d:cf w base l C)(f:k<l.length)(g:l.length<=300) :
  Ds 177 #[.agg C,.int .i64 (k:Int)] w (.agg #[.int .i64 (btI ((aW l 15).2.getD k 0) (l.getD k 0)),.int .i64 (l.getD k 0)]):=by
 obtain⟨a,cap,ac,b,q,sc,e,c,h2,h⟩:=d;exact Bkx.bookPut_any Bkx.bkL (.inl rfl) a ac cap l.length b k _ _ C l (aW l 15).2 w e rfl (bJ l 15) c.1 h2.1 f g
def qW(a:Option Addr)(cap n base:Nat)(l:List Int)(w:World)(b:l.length=n)(h:de w base a l)(g:base<=w.heap.size)(f:n<=300) :
  Calls prog 154 #[.slice a n cap] w fun e w'=>(∃C,e = .returned (.agg C)/\cf w' base l C)/\Below w.heap.size w w':=by
 apply(Bkx.codeBook_any Bkx.bkD (.inr (.inl rfl)) a cap n l w b h.1 f).mono;rintro e w'⟨vs,C,rfl,d,c,h2,hb⟩;obtain⟨q,sc,rfl⟩:=h2.form;subst b;exact⟨⟨C,rfl,a,cap,_,_,q,sc,d,h.later hb,(bX (bJ l 15) (c.own (bJ l 15))).mono (by omega),(bX rfl h2).mono (by omega)⟩,hb⟩
def Dk(k:Nat)(l:List Int)(C:Array Value)(base:Nat)(w:World)(d:cf w base l C)(f:k<l.length)(g:l.length<=300) :
  Ds 212 #[.agg C,.int .i64 (k:Int)] w (.agg #[.int .i64 (btI ((aW l 15).2.getD k 0) (l.getD k 0)),.int .i64 (l.getD k 0)]):=by
 obtain⟨a,cap,ac,b,q,sc,e,c,h2,h⟩:=d;exact Bkx.bookPut_any Bkx.bkD (.inr (.inl rfl)) a ac cap l.length b k _ _ C l (aW l 15).2 w e rfl (bJ l 15) c.1 h2.1 f g
def ff(w:World)(base:Nat)(L D:List Int)(C:Array Value):Prop:=∃C1 C2,C=C1++C2/\cf w base L C1/\cf w base D C2
def ff.later{base:Nat}(h:ff w base L D C)(hb:Below w.heap.size w w'):ff w' base L D C:=by
 obtain⟨a,b,e,c,h2⟩:=h;exact⟨a,b,e,c.later hb,h2.later hb⟩
def ff.size{base:Nat}(h:ff w base L D C):C.size=38:=by
 obtain⟨b,c,rfl,a,h2⟩:=h;rw[a2j,a.size,h2.size]
def Tryz.infoBooks:(prog.info? 200).map (·.size)=some 38:=by kernel_rfl
def Tryz.infoLitB:(prog.info? 195).map (·.size)=some 19:=by kernel_rfl
def Tryz.infoDistB:(prog.info? 198).map (·.size)=some 19:=by kernel_rfl
def jy{a d:Array Value}{t:TypeId}(h:w.heap[b]?=some (Obj.cells (a++d) t))(e:a.size=19):w.rangeAt b 0 a.toList/\w.rangeAt b 19 d.toList:=by
 refine⟨fun j v c=>?_,fun j v c=>?_⟩
 .
  have f:j<a.size:=by have:=(List.getElem?_eq_some_iff.1 c).1;simpa using this
  rw[a0G];simp only[World.cell?,h];rw[Array.getElem?_append_left f];simpa using c
 . simp only[World.cell?,h];rw[Array.getElem?_append_right (by omega),e,a1t];simpa using c
def Tryz.builtBooks(l1 c1 s1 l2 c2 s2:Value)(m1 m2:Nat->Nat):prog.built 200 [(0,.agg (bz l1 c1 s1 m1).toArray),(1,.agg (bz l2 c2 s2 m2).toArray)]=some ((bz l1 c1 s1 m1).toArray++(bz l2 c2 s2 m2).toArray):=by kernel_rfl
def nF{base:Nat}{a b:Array Value}(c:cf w base L a)(h2:cf w base D b):prog.built 200 [(0,.agg a),(1,.agg b)]=some (a++b):=by
 obtain⟨_,_,_,_,_,_,rfl,_⟩:=c;obtain⟨_,_,_,_,_,_,rfl,_⟩:=h2;exact Tryz.builtBooks _ _ _ _ _ _ _ _
def KE:cm 288=List.replicate 144 8++(List.replicate 112 9++(List.replicate 24 7++List.replicate 8 8)):=by decide +kernel
def ow(v:Int)(c cap g o:Nat)(w:World)(h:w.cell? ⟨g,o,none⟩=some (.int .i64 v))(a:1<=c)(b:(c:Int)<=1000) :
  Calls prog 101 #[.slice (some ⟨g,o,none⟩) 1 cap,c] w fun e w'=>(∃g',e = .returned (.slice (some ⟨g',0,none⟩) c c)/\an w' w.heap.size (.slice (some ⟨g',0,none⟩) c c) (List.replicate c v))/\Below w.heap.size w w':=
 (qp v c cap g o w h a b).mono fun _ _ ⟨d,f,hb⟩=>⟨⟨_,d,f⟩,hb⟩
def GH(x:World)(a b c d:Value)(t:TypeId):(x.alloc (.cells #[a,b,c,d] t)).cell? ⟨x.heap.size,0,none⟩=some a/\(x.alloc (.cells #[a,b,c,d] t)).cell? ⟨x.heap.size,1,none⟩=some b/\(x.alloc (.cells #[a,b,c,d] t)).cell? ⟨x.heap.size,2,none⟩=some c/\(x.alloc (.cells #[a,b,c,d] t)).cell? ⟨x.heap.size,3,none⟩=some d:=⟨by simp,by simp,by simp,by simp⟩
def jv{v:Value}(h:an w b v l)(hb:Below w.heap.size w w')(a:b'<=b):an w' b' v l:=(h.later hb (a0a _)).mono a
def lH:Array Value:=#[Value.slice none 0 0,Value.slice none 0 0,Value.int .i64 0,Value.int .i64 0,Value.int .i64 0,Value.int .i64 0,Value.int .i64 0,Value.int .i64 0,Value.int .i64 0,Value.int .i64 0,Value.int .i64 0,Value.int .i64 0,Value.int .i64 0,Value.int .i64 0,Value.int .i64 0,Value.int .i64 0,Value.int .i64 0,Value.int .i64 0,Value.slice none 0 0,Value.slice none 0 0,Value.slice none 0 0,Value.int .i64 0,Value.int .i64 0,Value.int .i64 0,Value.int .i64 0,Value.int .i64 0,Value.int .i64 0,Value.int .i64 0,Value.int .i64 0,Value.int .i64 0,Value.int .i64 0,Value.int .i64 0,Value.int .i64 0,Value.int .i64 0,Value.int .i64 0,Value.int .i64 0,Value.int .i64 0,Value.slice none 0 0]
def kW{ops:Array Oper}{rest:List Oper}{o:Oper}{a:Act}{Q:Exit->Act->World->Prop}(d:o.guard=none)(x y:Operand)(f:o.op = .build 200 #[(0,x),(1,y)])(b c:Array Value)(g:a.eval x = .agg b)(j:a.eval y = .agg c)
  (hb:prog.built 200 [(0,.agg b),(1,.agg c)]=some (b++c)) (h:wpList prog ops Q rest (a.put o.dst (.agg (b++c))) w):wpList prog ops Q (o :: rest) a w:=by
 have e:((#[(0,x),(1,y)]:Array (Nat×Operand)).map fun(i,x)=>(i,a.eval x)).toList=[(0,.agg b),(1,.agg c)]:=by simp[g,j]
 refine wpList_build d 200 #[(0,x),(1,y)] f (by rw[e,hb];rfl) ?_;rw[e,hb];exact h
theorem gU(b:Nat):∀(vs:List Value) (o:Nat) (w:World) (j:Nat),j≠b->(w.setCells b o vs).heap[j]?=w.heap[j]?
 | [],_,_,_,_=>rfl
 | v :: r,o,w,j,hj=>by
  rw[World.setCells,gU b r _ _ _ hj];exact a0M w ⟨b,o,none⟩ v j hj
def one_cell(x:World)(v:Value)(t:TypeId):(x.alloc (.cells #[v] t)).cell? ⟨x.heap.size,0,none⟩=some v:=by simp
def ep(x:World)(o:Obj):(x.alloc o).heap.size=x.heap.size+1:=by simp
def nO(w:World) :
  Calls prog 148 #[] w fun e w'=>(∃C,e = .returned (.agg C)/\ff w' (w.heap.size+1) (cm 288) (List.replicate 32 5) C)/\Below w.heap.size w w':=by
 obtain⟨W0,hW0⟩:∃W,w.alloc (.cells lH 200)=W:=⟨_,rfl⟩;have S0:W0.heap.size=w.heap.size+1:=by rw[←hW0];exact ep _ _
 have T:Hid (Below w.heap.size w W0):=by rw[←hW0];exact cC
 have T0:Hid (W0.there w.heap.size 0 38):=by rw[←hW0];exact jo w lH _ _ rfl
 have E0:=af hW0;unfold lH at E0;have S0':=af S0;clear hW0 S0;go_enter func148,ntmps148;go_wp2_with fail;rw[ae E0];have c1:(W0.alloc (.cells #[.int .i64 8] 3)).cell? ⟨w.heap.size+1,0,none⟩=some (.int .i64 8):=by rw[←ae S0'];exact one_cell _ _ _
 apply(ow 8 144 1 (w.heap.size+1) 0 _ c1 (by omega) (by omega)).mono;rintro e x1⟨⟨g1,rfl,o1⟩,L⟩;have t:Below W0.heap.size W0 x1:=aj cC L;have O1:=af (o1.mono (base':=w.heap.size+1) (by rw[ep,ae S0'];omega));have A1:=af t;clear c1 o1 L t;go_wp2_with fail;apply(ow 9 112 1 x1.heap.size 0 _ (one_cell _ _ _) (by omega) (by omega)).mono;rintro e x2⟨⟨g2,rfl,o2⟩,I⟩;have u:=aj A1 (aj cC I);have O1':=af (jv O1 (aj cC I) (a0a _));have O2:=af (o2.mono (base':=w.heap.size+1) (by rw[ep];have:=A1.size;have:=ae S0';omega));have A2:=af u;clear o2 I u O1 A1;go_wp2_with fail;apply(ow 7 24 1 x2.heap.size 0 _ (one_cell _ _ _) (by omega) (by omega)).mono;rintro e x3⟨⟨g3,rfl,o3⟩,E⟩;have x:=aj A2 (aj cC E);have O1:=af (jv O1' (aj cC E) (a0a _));have O2':=af (jv O2 (aj cC E) (a0a _));have O3:=af (o3.mono (base':=w.heap.size+1) (by rw[ep];have:=A2.size;have:=ae S0';omega));have A3:=af x;clear o3 E x O1' O2 A2;go_wp2_with fail;apply(ow 8 8 1 x3.heap.size 0 _ (one_cell _ _ _) (by omega) (by omega)).mono;rintro e x4⟨⟨g4,rfl,o4⟩,s⟩;have y:=aj A3 (aj cC s);have O1':=af (jv O1 (aj cC s) (a0a _));have O2:=af (jv O2' (aj cC s) (a0a _));have O3':=af (jv O3 (aj cC s) (a0a _));have O4:=af (o4.mono (base':=w.heap.size+1) (by rw[ep];have:=A3.size;have:=ae S0';omega));have A4:=af y;clear o4 s y O1 O2' O3 A3;go_wp2_with fail;have a:Below x4.heap.size x4 (x4.alloc (.cells #[.slice g1 144 144,.slice g2 112 112,.slice g3 24 24,.slice g4 8 8] 129)):=cC;have O:kf (x4.alloc (.cells #[.slice g1 144 144,.slice g2 112 112,.slice g3 24 24,.slice g4 8 8] 129)) x4.heap.size (w.heap.size+1) [(.slice g1 144 144,(List.replicate 144 8).map (Value.int .i64)),(.slice g2 112 112,(List.replicate 112 9).map (Value.int .i64)),(.slice g3 24 24,(List.replicate 24 7).map (Value.int .i64)),(.slice g4 8 8,(List.replicate 8 8).map (Value.int .i64))]:=by
  obtain⟨U,V,X,Y⟩:=GH x4 (.slice g1 144 144) (.slice g2 112 112) (.slice g3 24 24) (.slice g4 8 8) 129;intro i hi
  match i,hi with
  | 0,_=>exact⟨U,_,jv O1' a (a0a _),a1u .i64 _⟩
  | 1,_=>exact⟨V,_,jv O2 a (a0a _),a1u .i64 _⟩
  | 2,_=>exact⟨X,_,jv O3' a (a0a _),a1u .i64 _⟩
  | 3,_=>exact⟨Y,_,jv O4 a (a0a _),a1u .i64 _⟩
 have b:aR [(Value.slice g1 144 144,(List.replicate 144 8).map (Value.int .i64)),(.slice g2 112 112,(List.replicate 112 9).map (Value.int .i64)),(.slice g3 24 24,(List.replicate 24 7).map (Value.int .i64)),(.slice g4 8 8,(List.replicate 8 8).map (Value.int .i64))]=288:=by simp[aR,dc]
 have g:dQ [(Value.slice g1 144 144,(List.replicate 144 8).map (Value.int .i64)),(.slice g2 112 112,(List.replicate 112 9).map (Value.int .i64)),(.slice g3 24 24,(List.replicate 24 7).map (Value.int .i64)),(.slice g4 8 8,(List.replicate 8 8).map (Value.int .i64))]=(cm 288).map (Value.int .i64):=by
  rw[KE];simp only[dQ,a0W,a2o,a0K,a05]
 refine(sD x4.heap.size (w.heap.size+1) 4 4 _ _ rfl (by omega) (by omega) O (by rw[b];omega)).mono ?_;rintro e x5⟨v,rfl,o,hb⟩;rw[b,g]at o;have m:=aj A4 (aj a hb);have H:an x5 (w.heap.size+1) v (cm 288):=by
  have Z:an x5 (x4.alloc (.cells #[.slice g1 144 144,.slice g2 112 112,.slice g3 24 24,.slice g4 8 8] 129)).heap.size v (cm 288):=by
   show World.ownsRow _ _ _ _ _ (cm 288).length _;rw[dy];exact o
  refine Z.mono ?_;rw[ep];have:=A4.size;have:=ae S0';omega
 obtain⟨va,vc,rfl⟩:=H.formN (dy 288);have J5:=af (bX (dy 288) (H.own (dy 288)));have A5:=af m;have A:Hid (w.heap.size+1<=x5.heap.size):=by show _<=_;have:=m.size;have:=ae S0';omega
 clear a O b g o hb m H O1' O2 O3' O4 A4;go_wp2_with fail;apply(uj va vc 288 (w.heap.size+1) (cm 288) _ (dy 288) J5 A (by omega)).mono;rintro e x6⟨⟨c,rfl,R⟩,M⟩;have A6:=af (aj A5 M);have l:=af R;clear R M J5 A A5;go_wp2_with fail;apply(ow 5 32 1 x6.heap.size 0 _ (one_cell _ _ _) (by omega) (by omega)).mono;rintro e x7⟨⟨g7,rfl,o7⟩,N⟩;have n:=aj cC N;have A7:=af (aj A6 n);have r:=af (l.later n);have J7:=af (bX (a0y ..) (an.own (a0y ..) (o7.mono (base':=w.heap.size+1) (by rw[ep];have:=A6.size;have:=ae S0';omega))));have B:Hid (w.heap.size+1<=x7.heap.size):=by show _<=_;have:=A7.size;have:=ae S0';omega
 clear n o7 N l A6;go_wp2_with fail;apply(qW (some ⟨g7,0,none⟩) 32 32 (w.heap.size+1) (List.replicate 32 5) _ (a0y ..) J7 B (by omega)).mono;rintro e x8⟨⟨d,rfl,S⟩,J⟩;have A8:=af (aj A7 J);have l:=af (r.later J);have D:=af S;have G:=af (nF l D);have q:Hid (x8.there w.heap.size 0 38):=fun j K=>by
  obtain⟨h1,h2⟩:=ae T0 j K;have z:w.heap.size<W0.heap.size:=by have:=ae S0';omega
  exact⟨by rw[A8.cell (p:=⟨w.heap.size,0+j,none⟩) z];exact h1,by rw[A8.frozen (p:=⟨w.heap.size,0+j,none⟩) z];exact h2⟩
 have h:=l.size;have k:=D.size;have f:Hid ((c++d).size=38):=by show _=_;rw[a2j,h,k]
 have F:Hid ((c++d).all (·.oneCell')=true):=by show _=true;rw[Array.all_append,l.one,D.one];rfl
 clear h k S J r J7 B A7;go_wp2_with (first
  | (refine kW rfl (.tmp 13) (.tmp 16) rfl c d rfl rfl G ?_)
  | (refine wpList_store_mid rfl 200 (.tmp 0) (.tmp 17) rfl w.heap.size 0 (c++d) rfl rfl (by rw[ae f];exact q) (by rw[ae f];exact Tryz.infoBooks) F ?_))
 have hr:=World.rangeAt_setCells_same x8 w.heap.size 0 (c++d).toList (by rw[a15,ae f];exact q);have P:∀j,j≠w.heap.size->(x8.setCells w.heap.size 0 (c++d).toList).heap[j]?=x8.heap[j]?:=fun j K=>gU _ _ _ _ j K;have Q:(x8.setCells w.heap.size 0 (c++d).toList).heap.size=x8.heap.size:=size_setCells _ _ _ _;refine a0x (gp rfl _ _ w.heap.size _ _ rfl hr a3q rfl (by rw[a15,ae f];exact Tryz.infoBooks)) rfl ⟨⟨c++d,by simp,c,d,rfl,l.touch Q P (a0j _),D.touch Q P (a0j _)⟩,?_⟩;exact below_setCells (a0a _) _ _ _ (aj T A8)
