/- Of what the proof is made: 23 texts, one behind the other. -/
import Derived.Test.YtgmfehnnebkaoaaGreatDoorM7
import Derived.Lib.AppendZerosOnto
import Derived.Test.YtgmfehnnebkaoaaGreatDoorM8
import Derived.Test.YtgmfehnnebkaoaaGreatDoorM6
import Derived.Laws.IdiomStrings
import Derived.Laws.OwnMore
import Derived.Deep.RegionWith
set_option maxRecDepth 100000
set_option linter.unusedSimpArgs false
set_option linter.unusedVariables false
set_option maxHeartbeats 3200000
namespace Go.Proofs.YtgmfehnnebkaoaaGreatDoor
open Go.Proofs.Tryz
open Go.RowKit Go.Lib
variable {P:Program}
theorem lC(z:Value)(k:Nat):Builtin.zeroCells #[z] k=(List.replicate k z).toArray:=by
 unfold Builtin.zeroCells;apply Array.ext';simp only[a2F,a1j,a1Y,Nat.mul_one];simp;rw[List.map_const',List.length_range]
theorem lN(w:World)(t tn ty e:TypeId)(i:TypeInfo)(z:Value)(B kn:IntKind)(v:P.underlying t=some (.slice e))(j:P.underlying tn=some (.int kn))(q:P.info? e=some i)(A:i.zero=some z)
  (g sLen sCap:Nat) (a:Array Value) (p:w.heap[g]?=some (.cells a e (0,0))) (k:Nat) (C:0<k) (s:i.size=1) (l:z.cells=#[z]) (m:z.oneCell'=true)
  (b:sLen+k<=sCap) (d:sLen+k<=a.size) (o:(k:Int)<=9223372036854775807) (n:k*i.bytes<=281474976710656) :
  (Builtin.append_ #[t,tn] ty #[.slice (some ⟨g,0,none⟩) sLen sCap,.int B k]).run P w =
   .ok (.slice (some ⟨g,0,none⟩) (sLen+k) sCap) (w.setRow g (a.toList.take sLen++List.replicate k z++a.toList.drop (sLen+k)).toArray):=by
 have r:k≠0:=by omega
 have y:IntKind.i64.wrap (k:Int)=k:=by rw[a1e];omega
 have c:¬ (281474976710656<(k:Int)*(i.bytes:Int)):=by
  rw[←a2Z];omega
 have f:¬ ((k:Int)<0):=by omega
 have h:=run_storeCells_at P g sLen e (List.replicate k z) 0 a w p (by simpa using d) (by intro u x;rw[List.eq_of_mem_replicate x];exact m);simp only[a05,a0y]at h;simp[Builtin.append_,a1U v,a1U j,sizeOf,typeInfo,zeroValue,q,A,asInt,asIntOf,y,f,c,s,r,b,l,lC,Addr.add_lit,h]
theorem mM(w:World)(base:Nat)(t tn ty e:TypeId)(i:TypeInfo)(z:Value)(bytes:Nat)(A kn:IntKind)(G:P.underlying t=some (.slice e))(q:P.underlying tn=some (.int kn))(F:P.info? e=some i)(I:i.zero=some z)
  (K:i.size=1) (D:i.bytes=bytes) (r:z.cells=#[z]) (L:z.oneCell'=true) (v:Value) (n:Nat) (xs:List Value) (a:w.ownsRow base e 1 v n xs) (k:Nat) (B:0<k)
  (s:n+k<=maxLen) (b:(n+k)*bytes<=140737488355328) (l:base<=w.heap.size) :
  ∃v' w',(Builtin.append_ #[t,tn] ty #[v,.int A k]).run P w = .ok v' w'/\w'.ownsRow base e 1 v' (n+k) (xs++List.replicate k z)/\w.grownBy w' v.ownBlock:=by
 subst D;have y:n+k<=9223372036854775807:=by simp only[maxLen]at s;omega
 have c:(xs++List.replicate k z).length=(n+k)*1:=by rw[a0i,a.1,a0y];omega
 have o:k*i.bytes<=281474976710656:=by
  have:k*i.bytes<=(n+k)*i.bytes:=a18 _ (by omega);omega
 have grown:∀(old:Nat),old<n+k->∀(row:Option Nat),
   (w.drew.alloc (.cells (xs.toArray++Builtin.zeroCells z.cells k++Builtin.zeroCells z.cells (grownCap w (n+k) old e-(n+k))) e)).ownsRow base e 1
    (.slice (some ⟨w.heap.size,0,none⟩) (n+k) (grownCap w (n+k) old e)) (n+k) (xs++List.replicate k z) /\
   w.grownBy (w.drew.alloc (.cells (xs.toArray++Builtin.zeroCells z.cells k++Builtin.zeroCells z.cells (grownCap w (n+k) old e-(n+k))) e)) row:=by
  intro old S row;have E:=grownCap_ge w (n+k) old e;have m:grownCap w (n+k) old e<=maxLen:=grownCap_le_maxLen w (n+k) old e s;refine⟨⟨c,.inr ⟨w.heap.size,_,_,rfl,l,heap_alloc_new w.drew _,E,m,?_,?_⟩⟩,⟨rfl,rfl,rfl,by simp,fun j N _=>a1i w.drew _ j N⟩⟩
  . have:=a.1;simp only[a2n,a2F,r,lC,a0y];omega
  . rw[r,lC,lC];simp only[a1k,a0O];rw[←a0O,←c];exact List.take_left
 rcases a.2 with⟨rfl,rfl⟩|⟨g,cap,h,rfl,C,J,Q,m,M,p⟩
 . have R:xs=[]:=a2l (by simpa using a.1);subst R;have x:=run_append_grow_zeros (P:=P) w t tn ty e i z A kn G q F I none 0 0 [] (run_firstCells_none w.drew i.size 0 0 0) k B (by omega) (by omega) (by omega) o (a3r (by omega) (by simpa using b));have d:=grown 0 (by omega) (Value.ownBlock (.slice none 0 0));exact⟨_,_,x,d.1,d.2⟩
 .
  by_cases f:n+k<=cap
  .
   have x:=lN (P:=P) w t tn ty e i z A kn G q F I g n cap h J k B K r L f (by omega) (by omega) o;refine⟨_,_,x,⟨c,.inr ⟨g,cap,_,rfl,C,setRow_heap w g h _ e _ J,f,m,?_,?_⟩⟩,⟨rfl,rfl,rfl,by simp,fun k _ O=>setRow_other w g k _ (fun e=>O (by simp[Value.ownBlock,e]))⟩⟩
   . simp only[a2F,a0i,a0z,a1v,a1Z,a0y];omega
   .
    have H:h.toList.take n=xs:=by simpa using p
    rw[H,←c];exact List.take_left
  . have holds:∀j u,xs[j]?=some u->w.drew.cell? ((⟨g,0,none⟩:Addr).add j)=some u:=a.cells (g:=g) rfl;have x:=run_append_grow_zeros (P:=P) w t tn ty e i z A kn G q F I (some ⟨g,0,none⟩) n cap xs (run_firstCells_some (P:=P) w.drew i.size n ⟨g,0,none⟩ n cap xs (by rw[K];exact a.1) holds) k B (by omega) (by omega) (by omega) o (a3r (by omega) b);have d:=grown cap (by omega) (Value.ownBlock (.slice (some ⟨g,0,none⟩) n cap));exact⟨_,_,x,d.1,d.2⟩
theorem iL(w:World){ops:Array Oper}{rest:List Oper}{o:Oper}{a:Act}{Q:Exit->Act->World->Prop}(j:o.guard=none)(s x:Operand)(t tn:TypeId)
  (C:o.op = .call { callee:=.builtin .append,args:=#[s,x],argTypes:=#[t,tn] })
  (base:Nat) (e:TypeId) (i:TypeInfo) (z:Value) (bytes:Nat) (q kn:IntKind) (F:P.underlying t=some (.slice e)) (m:P.underlying tn=some (.int kn)) (B:P.info? e=some i) (H:i.zero=some z)
  (l:i.size=1) (g:i.bytes=bytes) (p:z.cells=#[z]) (u:z.oneCell'=true) (v:Value) (n:Nat) (xs:List Value) (E:a.eval s=v) (d:w.ownsRow base e 1 v n xs) (k:Nat) (G:a.eval x = .int q (k:Int)) (r:0<k)
  (f:n+k<=maxLen) (b:(n+k)*bytes<=140737488355328) (c:base<=w.heap.size)
  (h:∀v' w',w'.ownsRow base e 1 v' (n+k) (xs++List.replicate k z)->w.grownBy w' v.ownBlock->wpList P ops Q rest (a.put o.dst v') w'):wpList P ops Q (o :: rest) a w:=by
 obtain⟨v',w',D,h2,y⟩:=mM (P:=P) w base t tn o.type e i z bytes q kn F m B H l g p u v n xs d k r f b c;refine wpList_plain j fun _ A=>?_;unfold Oper.wp execOp;simp only[C,resolve,invoke,builtin,a2G,a3s,Result.andThen_ok,List.map_toArray,a0C,a1I,E,G,D];exact A _ _ (h v' w' h2 y)
end Go.Proofs.YtgmfehnnebkaoaaGreatDoor
namespace Go.Proofs.YtgmfehnnebkaoaaGreatDoor
open Go.Proofs.Tryz
open Go.RowKit
variable {B G L b g i j k n o:Nat}{a:Option Addr}{f:Nat×Nat}{l:List Int}{m:Nat->Nat}{t t':TypeId}{v vc vl vs y:Value}{w w' w1 w2 x y':World}{xs:List Value}
theorem Tryz.infoInt:(prog.info? 3).map (fun i=>(i.zero,i.size,i.bytes))=some (some (.int .i64 0),1,8):=by kernel_rfl
theorem bZ(l:List Int)(k:Nat)(h:k<l.length):l.take (k+1)=l.take k++[l.getD k 0]:=by
 rw[a09 h]
 congr 1
 simp[List.getD,h]
def bo(w:World)(a:Option Addr)(l:List Int):Prop:=
 0<l.length->∃g o,a=some ⟨g,o,none⟩/\g<w.heap.size/\∀i,i<l.length->w.cell? ⟨g,o+i,none⟩=some (.int .i64 (l.getD i 0))
theorem bo.below(h:bo w a l)(j:w.heap.size<=B)(hb:Below B w w'):bo w' a l:=by
 intro b;obtain⟨g,o,e,d,c⟩:=h b;exact⟨g,o,e,a0h d hb.size,fun i f=>by rw[←c i f];exact hb.cell (p:=⟨g,o+i,none⟩) (by show g<B;omega)⟩
theorem bo.later(h:bo w a l)(hb:Below w.heap.size w w'):bo w' a l:=h.below (a0a _) hb
def al(w:World)(base:Nat)(v:Value)(l:List Int):Prop:=w.ownsRow base 3 1 v l.length (l.map (Value.int .i64))
theorem al.form{base:Nat}(h:al w base v l):∃a cap,v = .slice a l.length cap:=by
 rcases h.2 with⟨e,b⟩|⟨g,cap,_,e,_⟩
 . exact⟨none,0,by rw[e,b]⟩
 . exact⟨_,cap,e⟩
theorem al.row{base:Nat}{cap:Nat}(h:al w base (.slice a l.length cap) l):bo w a l:=by
 intro k;rcases h.2 with⟨e,m⟩|⟨g,c,d,e,hb,f,_⟩
 . omega
 .
  simp only[a0J]at e;obtain⟨rfl,_,rfl⟩:=e;refine⟨g,0,rfl,(Array.getElem?_eq_some_iff.1 f).1,fun i j=>?_⟩;have:=a1V h (g:=g) rfl i (.int .i64 (l.getD i 0)) (by simp[List.getD,j]);have b:(⟨g,0,none⟩:Addr).add i=⟨g,i,none⟩:=by unfold Addr.add;split<;>simp_all
  rw[b]at this;rw[a0H];exact this
theorem al.later{base:Nat}(h:al w base v l)(hb:Below B w w')(e:w.heap.size<=B):al w' base v l:=by
 refine⟨h.1,?_⟩;rcases h.2 with d|⟨g,cap,b,rfl,c,a,rest⟩
 . exact .inl d
 . refine .inr ⟨g,cap,b,rfl,c,?_,rest⟩;have f:=(Array.getElem?_eq_some_iff.1 a).1;rw[hb.block g (by omega)];exact a
theorem al.lit(w:World)(base:Nat)(hb:base<=w.heap.size):al (w.alloc (.cells #[] 3)) base (.slice (some ⟨w.heap.size,0,none⟩) 0 0) []:=
 a0Y w #[] 0 hb (by unfold maxLen;omega) rfl
theorem al.nil(w:World)(base:Nat):al w base (.slice none 0 0) []:=a00 _ _ _ _
theorem nf{base:Nat}{a:Int}(h:x.ownsRow base 3 1 v (l.length+1) (l.map (Value.int .i64)++[.int .i64 a])):al x base v (l++[a]):=by
 unfold al;simpa using h
theorem al.mono{base base':Nat}(h:al w base v l)(hb:base'<=base):al w base' v l:=by
 refine⟨h.1,?_⟩;rcases h.2 with c|⟨g,cap,a,rfl,b,rest⟩
 . exact .inl c
 . exact .inr ⟨g,cap,a,rfl,by omega,rest⟩
theorem aH{y:World}{o:Obj}{e:TypeId}{size base:Nat}(b:(y.alloc o).grownBy y' v.ownBlock)(d:y.ownsRow base e size v n xs)(a:B<=base)(f:B<=y.heap.size)(hb:Below B x y):Below B x y':=
 (hb.alloc f _).grown b (by simp;omega) (fun j c=>a0L a (a0E (d.alloc o) j c).1)
theorem al.rowN{base:Nat}{cap:Nat}(b:l.length=n)(h:al w base (.slice a n cap) l):bo w a l:=by
 subst b;exact h.row
theorem al.formN{base:Nat}(b:l.length=n)(h:al w base v l):∃a cap,v = .slice a n cap:=by
 subst b;exact h.form
theorem al.own{base:Nat}(a:l.length=n)(h:al w base v l):w.ownsRow base 3 1 v n (l.map (Value.int .i64)):=by
 subst a;exact h
theorem fR{base:Nat}{a:Int}(b:l.length=n)(h:x.ownsRow base 3 1 v (n+1) (l.map (Value.int .i64)++[.int .i64 a])):al x base v (l++[a]):=by
 subst b;exact nf h
theorem al.put{base cap:Nat}(a:l.length=n)(h:al w base (.slice (some ⟨g,0,none⟩) n cap) l)(x:Int) :
  al (w.setCell ⟨g,j,none⟩ (.int .i64 x)) base (.slice (some ⟨g,0,none⟩) n cap) (l.set j x):=by
 subst a;have:=a10 h j (.int .i64 x);show World.ownsRow _ _ _ _ _ (l.set j x).length ((l.set j x).map (Value.int .i64));rw[a1w];have e:(l.set j x).map (Value.int .i64)=(l.map (Value.int .i64)).set j (.int .i64 x):=by simp[List.map_set]
 rw[e];exact this.1
theorem al.at{base cap:Nat}(b:l.length=n)(h:al w base (.slice (some ⟨g,0,none⟩) n cap) l)(a:j<n) :
  w.cell? ⟨g,j,none⟩=some (.int .i64 (l.getD j 0))/\w.frozen? ⟨g,j,none⟩=false/\base<=g/\g<w.heap.size:=by
 subst b;refine⟨?_,a2o h j,a0E h g rfl⟩;rw[a02 h j (by omega)];simp[a,List.getD]
theorem al.somes{base cap:Nat}(h:al w base (.slice a n cap) l)(d:0<l.length):∃g,a=some ⟨g,0,none⟩:=by
 rcases h.2 with⟨_,e⟩|⟨g,b,c,e,_⟩
 . omega
 . simp only[a0J]at e;exact⟨g,e.1⟩
theorem al.below{base cap:Nat}(h:al w base (.slice (some ⟨g,0,none⟩) n cap) l):base<=g/\g<w.heap.size:=a0E h g rfl
def Touch(a:Option Addr)(w w':World):Prop:=w'.heap.size=w.heap.size/\∀j,(∀g,a=some ⟨g,0,none⟩->j≠g)->w'.heap[j]?=w.heap[j]?
theorem Touch.refl(a:Option Addr)(w:World):Touch a w w:=⟨rfl,fun _ _=>rfl⟩
theorem Touch.set(h:Touch a w w')(c:a=some ⟨g,0,none⟩)(u:Value):Touch a w (w'.setCell ⟨g,o,none⟩ u):=
 ⟨by simpa using h.1,fun j b=>(a0K w' ⟨g,o,none⟩ u j (b g c)).trans (h.2 j b)⟩
theorem al.touch{base:Nat}(h:al w base v l)(j:Touch a w w')(f:∀g,a=some ⟨g,0,none⟩->g<base):al w' base v l:=by
 refine⟨h.1,?_⟩;rcases h.2 with i|⟨g,cap,b,rfl,c,d,rest⟩
 . exact .inl i
 . refine .inr ⟨g,cap,b,rfl,c,?_,rest⟩;rw[j.2 g (fun g' e=>by have:=f g' e;omega)];exact d
theorem oD{d e e1 e2 s1 s2 n1 n2:Nat}{v1 v2:Value}{x1 x2:List Value}(h:w.ownsRow d e1 s1 v1 n1 x1)(h2:w.ownsRow e e2 s2 v2 n2 x2)(i:e1≠e2):v1.ownBlock=none∨v1.ownBlock≠v2.ownBlock:=by
 rcases h.2 with⟨rfl,_⟩|⟨g,cap,f,rfl,_,j,_⟩
 . exact .inl rfl
 .
  refine .inr ?_;rcases h2.2 with⟨rfl,_⟩|⟨g',b,c,rfl,_,a,_⟩
  . simp[Value.ownBlock]
  . simp only[Value.ownBlock,ne_eq,a0k];rintro rfl;rw[j]at a;simp only[a0k,a3t]at a;exact i a.2.1
theorem au(h:B<=w.heap.size)(o:Obj):B<=(w.alloc o).heap.size:=by simp;omega
theorem dB(W:World)(g:Nat)(b:W.heap.size=g)(x:Value)(t:TypeId):∀(j:Nat) (u:Value),[x][j]?=some u->(W.alloc (.cells #[x] t)).cell? ((⟨g,0,none⟩:Addr).add j)=some u:=by
 subst b;intro j u a
 match j,a with
 | 0,a=>simp at a;subst a;simp[Addr.add]
theorem ib(x:Int):∀u∈[Value.int .i64 x],u.oneCell'=true:=by
 intro u a;simp at a;subst a;rfl
theorem dy{base:Nat}(h:w1.ownsRow base 3 1 (.slice (some ⟨g,0,none⟩) n n) n (madeCells (Value.int .i64 0).cells (n*1)).toList):al w1 base (.slice (some ⟨g,0,none⟩) n n) (List.replicate n 0):=by
 have e:(madeCells (Value.int .i64 0).cells (n*1)).toList=(List.replicate n (0:Int)).map (Value.int .i64):=by
  apply a2p
  . simp[madeCells]
  . intro i a h2;simp[madeCells,Value.cells,a1Y]
 show World.ownsRow _ _ _ _ _ (List.replicate n (0:Int)).length _;rw[a0y,←e];exact h
theorem al.setOther{base g' c:Nat}(h:al w base (.slice (some ⟨g,0,none⟩) n c) l)(i:g'≠g)(u:Value):al (w.setCell ⟨g',o,none⟩ u) base (.slice (some ⟨g,0,none⟩) n c) l:=by
 refine⟨h.1,?_⟩;rcases h.2 with f|⟨g1,cap,a,e,b,d,rest⟩
 . exact .inl f
 . refine .inr ⟨g1,cap,a,e,b,?_,rest⟩;simp only[a0J,a0k,a0D,a0P]at e;rw[a0K w ⟨g',o,none⟩ u g1 (by show g1≠g';omega)];exact d
theorem al.under{base c:Nat}(h:al w base (.slice (some ⟨g,0,none⟩) n c) l)(hb:Below B w w')(i:g<B):al w' base (.slice (some ⟨g,0,none⟩) n c) l:=by
 refine⟨h.1,?_⟩;rcases h.2 with f|⟨g1,cap,a,e,b,d,rest⟩
 . exact .inl f
 . refine .inr ⟨g1,cap,a,e,b,?_,rest⟩;simp only[a0J,a0k,a0D,a0P]at e;rw[hb.block g1 (by omega)];exact d
theorem al.setUnder{base:Nat}(h:al w base v l)(hb:b<base)(u:Value):al (w.setCell ⟨b,o,none⟩ u) base v l:=
 a23 h (a:=⟨b,o,none⟩) hb u
def cY(l:List UInt8):List Value:=l.map fun x=>Value.int .u8 (x.toNat:Int)
def bU(w:World)(base:Nat)(v:Value)(l:List UInt8):Prop:=w.ownsRow base 5 1 v l.length (cY l)
theorem bU.form{base:Nat}{l:List UInt8}(h:bU w base v l):∃a cap,v = .slice a l.length cap:=by
 rcases h.2 with⟨e,b⟩|⟨g,cap,_,e,_⟩
 . exact⟨none,0,by rw[e,b]⟩
 . exact⟨_,cap,e⟩
theorem bU.formN{base:Nat}{l:List UInt8}(b:l.length=n)(h:bU w base v l):∃a cap,v = .slice a n cap:=by
 subst b;exact h.form
theorem bU.own{base:Nat}{l:List UInt8}(a:l.length=n)(h:bU w base v l):w.ownsRow base 5 1 v n (cY l):=by
 subst a;exact h
theorem bU.later{base:Nat}{l:List UInt8}(h:bU w base v l)(hb:Below B w w')(a:w.heap.size<=B):bU w' base v l:=
 a1J h (row:=none) ⟨hb.os,hb.tape,hb.output,hb.size,fun k b _=>hb.block k (by omega)⟩ (by
  cases c:v.ownBlock with
  | none=>exact .inl rfl
  | some k=>exact .inr (by simp))
theorem bU.mono{base base':Nat}{l:List UInt8}(h:bU w base v l)(hb:base'<=base):bU w base' v l:=by
 refine⟨h.1,?_⟩;rcases h.2 with c|⟨g,cap,a,e,b,rest⟩
 . exact .inl c
 . exact .inr ⟨g,cap,a,e,a0L hb b,rest⟩
theorem bU.somes{base cap:Nat}{l:List UInt8}(h:bU w base (.slice a n cap) l)(d:0<l.length):∃g,a=some ⟨g,0,none⟩:=by
 rcases h.2 with⟨_,e⟩|⟨g,b,c,e,_⟩
 . omega
 . simp only[a0J]at e;exact⟨g,e.1⟩
theorem bU.at{base cap:Nat}{l:List UInt8}(b:l.length=n)(h:bU w base (.slice (some ⟨g,0,none⟩) n cap) l)(a:j<n) :
  w.cell? ⟨g,j,none⟩=some (.int .u8 ((l.getD j 0).toNat:Int))/\base<=g/\g<w.heap.size:=by
 subst b;refine⟨?_,a0E h g rfl⟩;rw[a02 h j (by omega)];simp[cY,a,List.getD]
theorem bU.nil(w:World)(base:Nat):bU w base (.slice none 0 0) []:=a00 _ _ _ _
theorem bU.lit(w:World)(base:Nat)(hb:base<=w.heap.size):bU (w.alloc (.cells #[] 5)) base (.slice (some ⟨w.heap.size,0,none⟩) 0 0) []:=a0Y w #[] 0 hb (by unfold maxLen;omega) rfl
theorem km{base:Nat}{l:List UInt8}{b:UInt8}(a:l.length=n)(h:x.ownsRow base 5 1 v (n+1) (cY l++[.int .u8 (b.toNat:Int)])):bU x base v (l++[b]):=by
 subst a;show World.ownsRow _ _ _ _ _ (l++[b]).length _;simpa[cY]using h
theorem Tryz.infoU8:(prog.info? 5).map (fun i=>(i.zero,i.size,i.bytes))=some (some (.int .u8 0),1,1):=by kernel_rfl
theorem one_byte(x:Int):∀u∈[Value.int .u8 x],u.oneCell'=true:=by
 intro u a;simp at a;subst a;rfl
theorem bU.text{base:Nat}{l:List UInt8}(h:bU w base v l) :
  (convert 22 9 v).run prog w = .ok (.string ⟨l.toArray⟩) w:=by
 rcases h.2 with⟨e,b⟩|⟨g,cap,a,e,_⟩
 . have d:l=[]:=a2l b;subst d;rw[e];rw[run_convert_bytes_string w _ _ _ none 0 0 a06 a2b a2c];rfl
 .
  rw[e];exact a3u w _ _ _ ⟨g,0,none⟩ cap l a06 a2b a2c (fun j c=>by
   have:=a1V h (g:=g) (by rw[e];rfl) j (.int .u8 (l[j].toNat:Int)) (by simp[cY,c]);exact this)
def nT(w:World)(a:Option Addr)(l:List (Int×Int)):Prop:=
 0<l.length->∃g o,a=some ⟨g,o,none⟩/\g<w.heap.size/\∀i,i<l.length->w.cell? ⟨g,o+i*2,none⟩=some (.int .i64 (l.getD i (0,0)).1)/\w.cell? ⟨g,o+i*2+1,none⟩=some (.int .i64 (l.getD i (0,0)).2)
theorem nT.later{l:List (Int×Int)}(h:nT w a l)(hb:Below w.heap.size w w'):nT w' a l:=by
 intro f;obtain⟨g,o,e,b,c⟩:=h f;refine⟨g,o,e,a0h b hb.size,fun i d=>⟨?_,?_⟩⟩
 . exact(hb.cell (p:=⟨g,o+i*2,none⟩) b).trans (c i d).1
 . exact(hb.cell (p:=⟨g,o+i*2+1,none⟩) b).trans (c i d).2
def aR:List (Int×Int)->List Value
 | []=>[]
 | p :: l=>.int .i64 p.1 :: .int .i64 p.2 :: aR l
theorem lp(l:List (Int×Int)):(aR l).length=l.length*2:=by
 induction l with
 | nil=>rfl
 | cons p l ih=>simp only[aR,a0A,ih];omega
theorem ee(l m:List (Int×Int)):aR (l++m)=aR l++aR m:=by
 induction l with
 | nil=>rfl
 | cons p l ih=>simp[aR,ih]
theorem D2(l:List (Int×Int))(i:Nat)(h:i<l.length):(aR l)[i*2]?=some (.int .i64 (l.getD i (0,0)).1)/\(aR l)[i*2+1]?=some (.int .i64 (l.getD i (0,0)).2):=by
 induction l generalizing i with
 | nil=>simp at h
 | cons p l ih=>
  cases i with
  | zero=>simp[aR]
  | succ i=>
   have:=ih i (by simpa using h);rw[show(i+1)*2=i*2+1+1 by omega];simpa[aR]using this
def Pcs(w:World)(base:Nat)(v:Value)(l:List (Int×Int)):Prop:=w.ownsRow base 139 2 v l.length (aR l)
theorem Pcs.form{base:Nat}{l:List (Int×Int)}(h:Pcs w base v l):∃a cap,v = .slice a l.length cap:=by
 rcases h.2 with⟨e,b⟩|⟨g,cap,_,e,_⟩
 . exact⟨none,0,by rw[e,b]⟩
 . exact⟨_,cap,e⟩
theorem Pcs.row{base:Nat}{cap:Nat}{l:List (Int×Int)}(h:Pcs w base (.slice a l.length cap) l):nT w a l:=by
 intro k;rcases h.2 with⟨_,m⟩|⟨g,b,d,e,hb,f,n⟩
 . omega
 . simp only[a0J]at e;obtain⟨rfl,_,rfl⟩:=e;refine⟨g,0,rfl,(Array.getElem?_eq_some_iff.1 f).1,fun i j=>?_⟩;have c:=D2 l i j;have c1:=a02 h (i*2) (by omega);have c2:=a02 h (i*2+1) (by omega);rw[a0H];exact⟨c1.trans c.1,c2.trans c.2⟩
theorem Pcs.later{base:Nat}{l:List (Int×Int)}(h:Pcs w base v l)(hb:Below B w w')(a:w.heap.size<=B):Pcs w' base v l:=
 a1J h (row:=none) ⟨hb.os,hb.tape,hb.output,hb.size,fun k b _=>hb.block k (by omega)⟩ (by
  cases c:v.ownBlock with
  | none=>exact .inl rfl
  | some k=>exact .inr (by simp))
theorem Tryz.infoPiece:(prog.info? 139).map (fun i=>(i.zero,i.size,i.bytes))=some (some (.agg #[.int .i64 0,.int .i64 0]),2,16):=by kernel_rfl
theorem Pcs.news{base cap:Nat}{l:List (Int×Int)}(h:Pcs w base (.slice (some ⟨g,0,none⟩) l.length cap) l):∀j u,(aR l)[j]?=some u->w.cell? ((⟨g,0,none⟩:Addr).add j)=some u:=
 a1V h rfl
theorem gT(l:List (Int×Int)):∀u∈aR l,u.oneCell'=true:=by
 induction l with
 | nil=>intro u a;simp[aR]at a
 | cons p l ih=>
  intro u a;simp only[aR,a0U]at a;rcases a with rfl|rfl|a
  . rfl
  . rfl
  . exact ih u a
theorem mF{base:Nat}{l:List (Int×Int)}{a b:Int}(h:x.ownsRow base 139 2 v (l.length+1) (aR l++[.int .i64 a,.int .i64 b])):Pcs x base v (l++[(a,b)]):=by
 show World.ownsRow _ _ _ _ _ (l++[(a,b)]).length _;rw[ee];simpa[aR]using h
theorem H5{base:Nat}{l:List (Int×Int)}{a b:Int}(c:l.length=n)(h:x.ownsRow base 139 2 v (n+1) (aR l++[.int .i64 a,.int .i64 b])):Pcs x base v (l++[(a,b)]):=by
 subst c;exact mF h
theorem Pcs.formN{base:Nat}{l:List (Int×Int)}(b:l.length=n)(h:Pcs w base v l):∃a cap,v = .slice a n cap:=by
 subst b;exact h.form
theorem Pcs.own{base:Nat}{l:List (Int×Int)}(a:l.length=n)(h:Pcs w base v l):w.ownsRow base 139 2 v n (aR l):=by
 subst a;exact h
theorem Pcs.rowN{base:Nat}{cap:Nat}{l:List (Int×Int)}(b:l.length=n)(h:Pcs w base (.slice a n cap) l):nT w a l:=by
 subst b;exact h.row
theorem Pcs.newsN{base cap:Nat}{l:List (Int×Int)}(a:l.length=n)(h:Pcs w base (.slice (some ⟨g,0,none⟩) n cap) l):∀j u,(aR l)[j]?=some u->w.cell? ((⟨g,0,none⟩:Addr).add j)=some u:=by
 subst a;exact h.news
theorem sH(w:World)(x y:Value)(t:TypeId):∀(j:Nat) (u:Value),[x,y][j]?=some u->(w.alloc (.cells #[x,y] t)).cell? ((⟨w.heap.size,0,none⟩:Addr).add j)=some u:=by
 intro j u a
 match j,a with
 | 0,a=>simp at a;subst a;simp[Addr.add]
 | 1,a=>simp at a;subst a;simp[Addr.add]
theorem sG(x y:Int):∀u∈[Value.int .i64 x,Value.int .i64 y],u.oneCell'=true:=by
 intro u a;simp at a;rcases a with rfl|rfl<;>rfl
open Corb
def aW(l:List (Int×Int)):Bool:=l.all (fun p=>pOk p.1 p.2)
theorem Cn(l:List (Int×Int))(k:Nat)(h:k<l.length):aW (l.take (k+1))=(aW (l.take k)&&pOk (l.getD k (0,0)).1 (l.getD k (0,0)).2):=by
 rw[a09 h,aW,a12]
 congr 1
 simp[List.getD,h]
theorem vo{l:List (Int×Int)}(h:aW (l.take k)=false):aW l=false:=by
 rw[←a2W]at h ⊢;intro h2;apply h;simp only[aW,a03]at h2 ⊢;intro x a;exact h2 x (a2d a)
def bP(l:List (Int×Int)):Int:=(l.map (·.2)).sum
def lOk(l:List (Int×Int)):Bool:=aW l&&decide (l.length<=4000)
def po(l:List (Int×Int)):Int:=if lOk l=true then bP l else -1
theorem ww{l:List (Int×Int)}(h:lOk l=true):po l=bP l:=a0d h
theorem uk{l:List (Int×Int)}(h:lOk l=false):po l = -1:=a0e (by simp[h])
theorem L2(l:List (Int×Int))(k:Nat)(h:k<l.length):bP (l.take (k+1))=bP (l.take k)+(l.getD k (0,0)).2:=by
 rw[a09 h,bP,a0I,List.sum_append];simp[bP,List.getD,h]
theorem Ef{l:List (Int×Int)}(h:aW l=true):0<=bP l/\bP l<=16*(l.length:Int):=by
 induction l with
 | nil=>simp[bP]
 | cons p l ih=>
  simp only[aW,a13,a0j]at h;have a:=aP.1 h.1;have h2:=ih h.2;simp only[bP,a0C,a0M,a0A]at h2 ⊢;omega
theorem FD{l:List (Int×Int)}(h:aW l=true)(k:Nat)(a:k<l.length):pOk (l.getD k (0,0)).1 (l.getD k (0,0)).2=true:=by
 simp only[aW,a03]at h;have e:l.getD k (0,0)=l[k]:=by simp[List.getD,a]
 rw[e];exact h _ (a2i a)
theorem lD{l:List (Int×Int)}(h:aW l=true)(k:Nat):aW (l.take k)=true:=by
 simp only[aW,a03]at h ⊢;exact fun x a=>h x (a2d a)
theorem gO(a:Option Addr)(cap:Nat)(l:List (Int×Int))(w:World)(h:nT w a l)(D:l.length<=1000000000) :
  CD 105 #[.slice a l.length cap] w (.int .i64 (po l)):=by
 by_cases A:(l.length:Int)<=4000
 .
  go_enter func105,ntmps105;go_wp2_with fail
  go_loopw [3,5,11] (fun n _ i wr=>∃k:Nat,k<=l.length/\i = .int .i64 k/\n = .int .i64 (bP (l.take k))/\aW (l.take k)=true/\Below w.heap.size w wr) (fun _ _ i _=>l.length-(intOf i).toNat)
  case atStart=>exact⟨0,a0g _,rfl,rfl,rfl,a0c _ _⟩
  case round=>
   obtain⟨k,C,rfl,rfl,c,b⟩:=hrel;obtain⟨s0,s1⟩:=Ef c;have s2:((l.take k).length:Int)<=4000:=by simp;omega
   have s3:bP (l.take k)<=64000:=by omega
   by_cases j:k<l.length
   .
    obtain⟨g,o,rfl,B,r⟩:=(h.later b) (by omega);obtain⟨c0,c1⟩:=r k j;have v:=af (L2 l k j);have q:=af (Cn l k j);have f:=af c;clear r h c s1 s2;generalize (l.getD k (0,0)).1=x at *
    generalize (l.getD k (0,0)).2=y at *
    cases m:pOk x y
    .
     have t:Hid (po l = -1):=uk (by
      have:aW l=false:=vo (k:=k+1) (by rw[ae q,m];simp);simp[lOk,this])
     generalize bP (l.take k)=S at *
     go_wp2_with (go_at_call 144;refine(jC _ _ _).mono ?_;rintro e w1 ⟨rfl,d⟩);go_ret;exact⟨aJ (ae t).symm,(b.alloc b.size _).trans (d.mono (by have:=b.size;simp;omega))⟩
    .
     obtain⟨⟨y0,y1⟩,_⟩:=aP.1 m;generalize bP (l.take k)=S at *
     go_wp2_with (go_at_call 144;refine(jC _ _ _).mono ?_;rintro e w1 ⟨rfl,d⟩;have z:w1.cell? ⟨wr.heap.size,1,none⟩=some (.int .i64 y):=(d.cell (p:=⟨wr.heap.size,1,none⟩) (by simp)).trans (by simp));go_roundw
     case rel=>exact⟨k+1,by omega,by go_num,by rw[ae v],by rw[ae q,ae f,m];rfl,(b.alloc b.size _).trans (d.mono (by have:=b.size;simp;omega))⟩
     case measure=>simp[intOf];omega
   .
    have s:Hid (po l=bP (l.take k)):=by
     rw[a0o (by omega)]at c ⊢;exact ww (by simp[lOk,c];omega)
    clear h c;go_wp2;go_ret;exact⟨aJ (ae s).symm,b⟩
 . have u:Hid (po l = -1):=uk (by simp[lOk];omega);go_enter func105,ntmps105;go_wp2;go_ret;exact⟨aJ (ae u).symm,a0c _ _⟩
def bp(t:TypeId)(w w':World):Prop:=∀(k:Nat) (c:Array Value) (f:Nat×Nat),w.heap[k]?=some (Obj.cells c t f)->w'.heap[k]?=some (Obj.cells c t f)
theorem bp.refl(t:TypeId)(w:World):bp t w w:=fun _ _ _ h=>h
theorem bp.trans(h:bp t w w1)(k:bp t w1 w2):bp t w w2:=fun j c f a=>k j c f (h j c f a)
theorem dm{o:Obj}(h:w.heap[k]?=some o):k<w.heap.size:=(Array.getElem?_eq_some_iff.1 h).1
theorem bp.below(h:Below w.heap.size w w'):bp t w w':=fun j _ _ a=>(h.block j (dm a)).trans a
theorem bp.alloc(h:bp t w w')(o:Obj):bp t w (w'.alloc o):=fun j c f a=>(a1i w' o j (dm (h j c f a))).trans (h j c f a)
theorem bp.drew(h:bp t w w'):bp t w w'.drew:=h
theorem bp.set{c:Array Value}(h:bp t w w')(e:w'.heap[g]?=some (.cells c t' f))(b:t≠t')(u:Value):bp t w (w'.setCell ⟨g,o,none⟩ u):=by
 intro j d f' i;have a:=h j d f' i;rw[a0K w' ⟨g,o,none⟩ u j (by
  show j≠g;rintro rfl;rw[e]at a;simp only[a0k,a3t]at a;exact b a.2.1.symm)]
 exact a
theorem bp.own{base size:Nat}(h:bp t w w')(d:w.ownsRow base t size v n xs):w'.ownsRow base t size v n xs:=by
 refine⟨d.1,?_⟩;rcases d.2 with e|⟨g,cap,a,rfl,b,c,rest⟩
 . exact .inl e
 . exact .inr ⟨g,cap,a,rfl,b,h g _ _ c,rest⟩
theorem Hf{base size cap:Nat}{e:TypeId}{a:Addr}(h:w.ownsRow base e size (.slice (some a) n cap) n xs)(i:a=⟨g,0,none⟩):∃c,w.heap[g]?=some (.cells c e):=by
 subst i;rcases h.2 with⟨j,_⟩|⟨g',d,f,e',_,b,_⟩
 . cases j
 . simp only[a0J,a0k,a0D,a0P]at e';obtain⟨rfl,_,_⟩:=e';exact⟨_,b⟩
theorem bp.touch{c:Array Value}(d:w.heap[g]?=some (.cells c t' f))(b:t≠t')(h:Touch (some ⟨g,0,none⟩) w w'):bp t w w':=by
 intro j i f' a;rw[h.2 j (fun g' e=>by
  simp only[a0k,a0D,a0P]at e;subst e;rintro rfl;rw[d]at a;simp only[a0k,a3t]at a;exact b a.2.1.symm)]
 exact a
theorem bp.grown{base size:Nat}(h:bp t w w1)(m:w1.ownsRow base t' size v n xs)(d:t≠t')(k:w1.grownBy w2 v.ownBlock):bp t w w2:=by
 intro j c f l;have a:=h j c f l;rw[k.block j (dm a) (by
  intro e;rcases m.2 with⟨rfl,_⟩|⟨g,cap,i,rfl,_,b,_⟩
  . cases e
  . simp only[Value.ownBlock,a0k]at e;subst e;rw[b]at a;simp only[a0k,a3t]at a;exact d a.2.1.symm)]
 exact a
theorem zW{x z:Value}(h:w.heap[b]?=some (Obj.cells #[x,y,z] t)):w.cell? ⟨b,0,none⟩=some x/\w.cell? ⟨b,1,none⟩=some y/\w.cell? ⟨b,2,none⟩=some z/\b<w.heap.size:=
 ⟨by simp[World.cell?,h],by simp[World.cell?,h],by simp[World.cell?,h],(Array.getElem?_eq_some_iff.1 h).1⟩
theorem dc{x:Value}(h:w.heap[b]?=some (Obj.cells #[x,y] t)):w.cell? ⟨b,0,none⟩=some x/\w.cell? ⟨b,1,none⟩=some y/\b<w.heap.size:=
 ⟨by simp[World.cell?,h],by simp[World.cell?,h],(Array.getElem?_eq_some_iff.1 h).1⟩
theorem alloc_at(w:World)(o:Obj):(w.alloc o).heap[w.heap.size]?=some o:=Array.getElem?_push_size
def krN(b:Int):Nat:=if 0<b then p2 (15-b).toNat else 0
def kr(l:List Int):Nat:=(l.map krN).sum
def us(l:List Int):Nat:=(l.map (fun b=>if 0<b then 1 else 0)).sum
def inL(l:List Int):Bool:=l.all (fun b=>inB b 0 15)
def oF(l:List Int):Bool:=decide (kr l=32768) || (decide (us l=1)&&decide (kr l=16384))
def av(l:List Int):Bool:=inL l&&decide (l.length<=300)&&oF l
theorem EV(l:List Int)(k:Nat)(h:k<l.length):kr (l.take (k+1))=kr (l.take k)+krN (l.getD k 0):=by
 rw[bZ l k h];simp[kr]
theorem pN(l:List Int)(k:Nat)(h:k<l.length):us (l.take (k+1))=us (l.take k)+(if 0<l.getD k 0 then 1 else 0):=by
 rw[bZ l k h];simp[us]
theorem J4(l:List Int)(k:Nat)(h:k<l.length):inL (l.take (k+1))=(inL (l.take k)&&inB (l.getD k 0) 0 15):=by
 rw[bZ l k h];simp[inL]
theorem Ke(b:Int):krN b<=32768:=by
 unfold krN
 split
 . have h2:2 ^ (15-b).toNat<=2 ^ 15:=a0T (by omega) (by omega);have a:p2 (15-b).toNat=2 ^ (15-b).toNat:=rfl;omega
 . omega
theorem PP(l:List Int):kr l<=32768*l.length:=by
 induction l with
 | nil=>simp[kr]
 | cons b l ih=>
  have:=Ke b;simp only[kr,a0C,a0M,a0A]at ih ⊢;omega
theorem rK(l:List Int):us l<=l.length:=by
 induction l with
 | nil=>simp[us]
 | cons b l ih=>
  simp only[us,a0C,a0M,a0A]at ih ⊢
  split<;>omega
theorem ER(h:k<l.length)(a:inB (l.getD k 0) 0 15=false):inL l=false:=by
 rcases hb:inL l with _|_
 . rfl
 . have:=a03.1 hb (l.getD k 0) (by simp[List.getD,h]);rw[a]at this;exact absurd this (by simp)
theorem Dv(a:Option Addr)(cap n:Nat)(l:List Int)(w:World)(v:l.length=n)(h:bo w a l)(s:n<=1048576) :
  Calls prog 232 #[.slice a n cap] w fun e w'=>e = .returned (.int .i64 (us l:Nat))/\w'=w:=by
 subst v;have t:(l.length:Int)<=1048576:=by omega
 clear s;go_enter func232,ntmps232;go_wp2_with fail
 go_loop [3,4] (fun n i=>∃k:Nat,k<=l.length/\i = .int .i64 k/\n = .int .i64 (us (l.take k):Nat)) (fun _ i=>l.length-(intOf i).toNat)
 case atStart=>exact⟨0,a0g _,rfl,rfl⟩
 case round=>
  obtain⟨k,r,rfl,rfl⟩:=hrel;by_cases c:k<l.length
  .
   obtain⟨g,o,rfl,x,m⟩:=h (by omega);have c0:=m k c;have d:=af (pN l k c);have j:=rK (l.take k);have p:(us (l.take k):Int)<=1048576:=by
    have:(l.take k).length<=l.length:=by simp;omega
    omega
   clear m r h j;generalize l.getD k 0=y at *
   generalize us (l.take k)=u at *
   by_cases q:0<y
   .
    have b:Hid (us (l.take (k+1))=u+1):=by have:=ae d;rw[a0d q]at this;exact this
    go_wp2
    go_round
    case rel=>exact⟨k+1,by omega,by go_num,by rw[ae b];go_num⟩
    case measure=>simp[intOf];omega
   .
    have b:Hid (us (l.take (k+1))=u):=by have:=ae d;rw[a0e q]at this;exact this
    go_wp2
    go_round
    case rel=>exact⟨k+1,by omega,by go_num,by rw[ae b]⟩
    case measure=>simp[intOf];omega
  . have f:Hid (l.take k=l):=a0o (by omega);clear h;go_wp2;go_ret;exact⟨aJ (by rw[ae f]),rfl⟩
theorem wu(h:inL l=false∨300<l.length):av l=false:=by
 unfold av;rcases h with h|h
 . simp[h]
 . rw[a0v (by omega)];simp
theorem DC(h:inL l=true)(a:l.length<=300):av l=oF l:=by
 simp[av,h,a]
theorem vz(a:Option Addr)(cap n:Nat)(l:List Int)(w:World)(O:l.length=n)(h:bo w a l)(p:inL l=true)(H:n<=300) :
  Calls prog 266 #[.slice a n cap] w fun e w'=>e = .returned (.bool (oF l))/\w'=w:=by
 subst O;have N:(l.length:Int)<=300:=by omega
 have J:=af H;have z:=af p;clear H p;go_enter func266,ntmps266;go_wp2_with fail
 go_loop [3,4,6,9] (fun u n _ i=>∃k:Nat,k<=l.length/\i = .int .i64 k/\u = .int .i64 (us (l.take k):Nat)/\n = .int .i64 (kr (l.take k):Nat)) (fun _ _ _ i=>l.length-(intOf i).toNat)
 case atStart=>exact⟨0,a0g _,rfl,rfl,rfl⟩
 case round=>
  obtain⟨k,M,rfl,rfl,rfl⟩:=hrel;have C:=PP (l.take k);have F:=rK (l.take k);have D:(l.take k).length<=l.length:=by simp;omega
  have B:(kr (l.take k):Int)<=9830400:=by have:=ae J;omega
  have E:(us (l.take k):Int)<=300:=by omega
  clear C D F;by_cases f:k<l.length
  .
   obtain⟨g,o,rfl,T,m⟩:=h (by omega);have c0:=m k f;have s:=af (EV l k f);have t:=af (pN l k f);have S:inB (l.getD k 0) 0 15=true:=by
    rcases hb:inB (l.getD k 0) 0 15 with _|_
    . have:=ER f hb;rw[ae z]at this;exact absurd this (by simp)
    . rfl
   clear m M h;generalize l.getD k 0=y at *
   generalize kr (l.take k)=u at *
   generalize us (l.take k)=q at *
   obtain⟨y0,y1⟩:=aI.1 S;by_cases x:0<y
   .
    obtain⟨c,m⟩:∃c:Nat,15-y=(c:Int):=⟨(15-y).toNat,by omega⟩;have d:Hid (krN y=p2 c):=by
     show krN y=p2 c;unfold krN;rw[a0d x,m,a0l]
    have j:=Ke y;rw[ae d]at j;have b:Hid (us (l.take (k+1))=q+1):=by have:=ae t;rw[a0d x]at this;exact this
    have P:(1:Int)*2 ^ c=(p2 c:Int):=by rw[Int.one_mul,jU]
    have I:(2:Int) ^ c=(p2 c:Int):=(jU c).symm;generalize p2 c=PW at *
    have L:(PW:Int)<=32768:=by omega
    have Q:IntKind.i64.wrap (15-y)=(c:Int):=by rw[m];exact dn _ (by omega) (by omega)
    have R:IntKind.i64.wrap (PW:Int)=(PW:Int):=dn _ (by omega) (by omega);clear j;go_wp2
    go_round
    case rel=>exact⟨k+1,by omega,by go_num,by rw[ae b];go_num,by rw[ae s,ae d];go_num⟩
    case measure=>simp[intOf];omega
   .
    have d:Hid (krN y=0):=a0e x;have b:Hid (us (l.take (k+1))=q):=by have:=ae t;rw[a0e x]at this;exact this
    go_wp2
    go_round
    case rel=>exact⟨k+1,by omega,by go_num,by rw[ae b],by rw[ae s,ae d];rfl⟩
    case measure=>simp[intOf];omega
  .
   have r:l.take k=l:=a0o (by omega);rw[r]at B E ⊢;have v:Hid (oF l=(decide (kr l=32768) || (decide (us l=1)&&decide (kr l=16384)))):=rfl;clear h r;generalize kr l=K at *
   generalize us l=U at *
   by_cases A:K=32768
   . subst A;go_wp2;go_ret;exact⟨ak (by rw[ae v];rfl),rfl⟩
   .
    have g1:((K:Int) == 32768)=false:=by simp;omega
    by_cases G:U=1
    .
     subst G;by_cases h2:K=16384
     . subst h2;go_wp2;go_ret;exact⟨ak (by rw[ae v];rfl),rfl⟩
     .
      have g2:((K:Int) == 16384)=false:=by simp;omega
      go_wp2;go_ret;exact⟨ak (by rw[ae v];simp[A,h2]),rfl⟩
    .
     have g3:((U:Int) == 1)=false:=by simp;omega
     go_wp2;go_ret;exact⟨ak (by rw[ae v];simp[A,G]),rfl⟩
theorem tF(a:Option Addr)(cap n:Nat)(l:List Int)(w:World)(s:l.length=n)(h:bo w a l)(v:n<=1048576) :
  Calls prog 259 #[.slice a n cap] w fun e w'=>e = .returned (.bool (av l))/\w'=w:=by
 subst s;by_cases u:(l.length:Int)<=300
 .
  clear v;go_enter func259,ntmps259;go_wp2_with fail
  go_loopw [4,10] (fun _ i wr=>∃k:Nat,k<=l.length/\i = .int .i64 k/\inL (l.take k)=true/\wr=w) (fun _ i _=>l.length-(intOf i).toNat)
  case atStart=>exact⟨0,a0g _,rfl,rfl,rfl⟩
  case round=>
   obtain⟨k,A,rfl,b,rfl⟩:=hrel;have f:=af b;clear b;by_cases d:k<l.length
   .
    obtain⟨g,o,rfl,C,t⟩:=h (by omega);have c0:=t k d;have hit:=af (J4 l k d);have j:=af (fun s=>ER d s);clear t A h;generalize l.getD k 0=y at *
    cases r:inB y 0 15
    .
     have c:=af (wu (a0x (ae j r)));rcases fU.1 r with z|z
     . go_wp2;go_ret;exact⟨ak (ae c).symm,rfl⟩
     .
      have B:¬ y<0:=by omega
      go_wp2;go_ret;exact⟨ak (ae c).symm,rfl⟩
    .
     obtain⟨y0,y1⟩:=aI.1 r;have m:Hid (inL (l.take (k+1))=true):=by show inL (l.take (k+1))=true;rw[ae hit,ae f,r];rfl
     go_wp2;go_roundw
     case rel=>exact⟨k+1,by omega,by go_num,ae m,by first|rfl|trivial⟩
     case measure=>simp[intOf];omega
   .
    have p:l.take k=l:=a0o (by omega);have b:inL l=true:=by have:=ae f;rw[p]at this;exact this
    have q:=af (DC b (by omega));have x:=af (vz a cap l.length l wr rfl h b (by omega));clear p b h;go_wp2_with fail;refine(ae x).mono ?_;rintro e x1 ⟨rfl,rfl⟩;go_wp2;go_ret;exact⟨ak (ae q).symm,rfl⟩
 . have c:=af (wu (l:=l) (Or.inr (by omega)));clear v h;go_enter func259,ntmps259;go_wp2;go_ret;exact⟨ak (ae c).symm,rfl⟩
def inn(l:List Int)(n:Int)(s:Nat×List Int):Nat->Nat×List Int
 | 0=>s
 | k+1=>if l.getD k 0=n then((inn l n s k).1+1,(inn l n s k).2.set k ((inn l n s k).1:Int))else inn l n s k
def bj(l:List Int):Nat->Nat×List Int
 | 0=>(0,List.replicate l.length 0)
 | N+1=>inn l ((N:Int)+1) (2*(bj l N).1,(bj l N).2) l.length
theorem su(l:List Int)(n:Int)(s:Nat×List Int)(k:Nat):(inn l n s k).2.length=s.2.length:=by
 induction k with
 | zero=>rfl
 | succ k ih=>
  simp only[inn]
  split
  . simpa using ih
  . exact ih
theorem cq(l:List Int)(N:Nat):(bj l N).2.length=l.length:=by
 induction N with
 | zero=>simp[bj]
 | succ N ih=>simp only[bj];rw[su];exact ih
theorem Dp(l:List Int)(n:Int)(s:Nat×List Int)(k:Nat):(inn l n s k).1<=s.1+k:=by
 induction k with
 | zero=>exact a0a _
 | succ k ih=>
  simp only[inn]
  split
  . simp only;omega
  . omega
theorem NJ(l:List Int)(N:Nat):(bj l N).1+l.length<=2 ^ N*l.length:=by
 induction N with
 | zero=>simp[bj]
 | succ N ih=>
  simp only[bj];have h:=Dp l ((N:Int)+1) (2*(bj l N).1,(bj l N).2) l.length;simp only at h;have e:2 ^ (N+1)*l.length=2*(2 ^ N*l.length):=by rw[a1s,a1d (2 ^ N),a1G]
  omega
theorem sB(l:List Int)(N:Nat)(a:N<=15)(b:l.length<=300):(bj l N).1<=9830400:=by
 have h:=NJ l N;have h2:2 ^ N<=2 ^ 15:=a0T (by omega) a;have c:2 ^ N*l.length<=32768*300:=a2m h2 b;omega
theorem Aa(a:Option Addr)(cap n:Nat)(l:List Int)(w:World)(U:l.length=n)(h:bo w a l)(X:n<=300) :
  Calls prog 225 #[.slice a n cap] w fun e w'=>e = .returned (.slice (some ⟨w.heap.size,0,none⟩) n n)/\al w' w.heap.size (.slice (some ⟨w.heap.size,0,none⟩) n n) (bj l 15).2/\Below w.heap.size w w':=by
 have ab:(n:Int)<=300:=by omega
 obtain⟨i0,W,G,H,I⟩:=a0r Tryz.infoInt;have u:=af U;have L:=af X;go_enter func225,ntmps225;go_wp2_with (at_make;refine a1K _ rfl _ _ 97 rfl w.heap.size 3 i0 (.int .i64 0) 1 a0G W G H .i64 .i64 _ _ n rfl rfl rfl rfl (by rw[I];omega) (by unfold maxLen;omega) (a0a _) ?_;intro w1 s p);have D:al w1 w.heap.size (.slice (some ⟨w.heap.size,0,none⟩) n n) (bj l 0).2:=by
  show al w1 w.heap.size (.slice (some ⟨w.heap.size,0,none⟩) n n) (List.replicate l.length 0);rw[U];exact dy s
 have z:Below w.heap.size w w1:=(a0c _ _).grown p (a0a _) (fun k h=>by cases h);clear s p W G H I X U
 go_loopw [4,5,6] (fun c m _ wr=>∃N:Nat,N<=15/\m = .int .i64 ((N:Int)+1)/\c = .int .i64 (2*(bj l N).1:Nat)/\al wr w.heap.size (.slice (some ⟨w.heap.size,0,none⟩) n n) (bj l N).2/\Below w.heap.size w wr) (fun _ m _ _=>16-(intOf m).toNat)
 case atStart=>exact⟨0,by omega,rfl,rfl,D,z⟩
 case round=>
  obtain⟨N,Y,rfl,rfl,J,f⟩:=hrel;clear D z;have P:=sB l N Y (by rw[ae u];exact ae L);have O:((2*(bj l N).1:Nat):Int)<=19660800:=by omega
  have Z:(N:Int)<=15:=by omega
  by_cases aa:N<15
  .
   have q:Hid ((bj l N).2.length=n):=(cq l N).trans (ae u);have A:Hid (bj l (N+1)=inn l ((N:Int)+1) (2*(bj l N).1,(bj l N).2) l.length):=rfl;have t:=af (sB l (N+1) (by omega) (by rw[ae u];exact ae L));generalize M:((2*(bj l N).1,(bj l N).2):Nat×List Int)=S at *
   have v:2*(bj l N).1=S.1:=by rw[←M]
   have x:(bj l N).2=S.2:=by rw[←M]
   rw[v]at O ⊢;rw[x]at J q;clear M v x P;go_wp2_with fail
   go_loopw [4,6] (fun c i wr=>∃k:Nat,k<=n/\i = .int .i64 k/\c = .int .i64 ((inn l ((N:Int)+1) S k).1:Nat)/\al wr w.heap.size (.slice (some ⟨w.heap.size,0,none⟩) n n) (inn l ((N:Int)+1) S k).2/\Below w.heap.size w wr) (fun _ i _=>n-(intOf i).toNat)
   case atStart=>exact⟨0,a0g _,rfl,rfl,J,f⟩
   case round=>
    obtain⟨k,hk,rfl,rfl,hq,hb⟩:=hrel;clear J f;have r:Hid ((inn l ((N:Int)+1) S k).2.length=n):=(su _ _ _ _).trans (ae q);have R:=Dp l ((N:Int)+1) S k;have C:((inn l ((N:Int)+1) S k).1:Int)<=19661100:=by have:=ae L;omega
    clear R;by_cases B:k<n
    .
     obtain⟨g,o,rfl,hg,V⟩:=(h.later hb) (by rw[ae u];omega);have c0:=V k (by rw[ae u];exact B);obtain⟨d0,f0,_,_⟩:=hq.at (ae r) B;have F:Hid (inn l ((N:Int)+1) S (k+1)=if l.getD k 0=(N:Int)+1 then((inn l ((N:Int)+1) S k).1+1,(inn l ((N:Int)+1) S k).2.set k ((inn l ((N:Int)+1) S k).1:Int))else inn l ((N:Int)+1) S k):=rfl;clear V hk h;generalize l.getD k 0=y at *
     generalize inn l ((N:Int)+1) S k=T at *
     by_cases K:y=(N:Int)+1
     .
      have b:Hid (inn l ((N:Int)+1) S (k+1)=(T.1+1,T.2.set k (T.1:Int))):=by have:=ae F;rw[a0d K]at this;exact this
      have E:=af (hq.put (j:=k) (ae r) (T.1:Int));subst K;generalize T.2.getD k 0=d at *
      go_wp2;go_roundw
      case rel=>exact⟨k+1,by omega,by go_num,by rw[ae b];go_num,by rw[ae b];exact ae E,ai hb (a0a _) _⟩
      case measure=>simp[intOf];omega
     .
      have b:Hid (inn l ((N:Int)+1) S (k+1)=T):=by have:=ae F;rw[a0e K]at this;exact this
      have g1:(y == (N:Int)+1)=false:=by simpa using K
      go_wp2;go_roundw
      case rel=>exact⟨k+1,by omega,by go_num,by rw[ae b],by rw[ae b];exact hq,hb⟩
      case measure=>simp[intOf];omega
    .
     have Q:k=l.length:=by have:=ae u;omega
     subst Q;rw[←ae A]at hq C ⊢;have ac:((bj l (N+1)).1:Int)<=9830400:=by have:=ae t;omega
     go_wp2;go_roundw
     case rel=>exact⟨N+1,by omega,by go_num,by go_num,hq,hb⟩
     case measure=>simp[intOf];omega
  .
   obtain rfl:N=15:=by omega
   go_wp2;go_ret;exact⟨rfl,J,f⟩
def many(l:List Int)(n:Int):Nat->Nat
 | 0=>0
 | k+1=>if l.getD k 0=n then many l n k+1 else many l n k
def syms(l:List Int)(n:Int)(s:List Int):Nat->List Int
 | 0=>s
 | k+1=>if l.getD k 0=n then syms l n s k++[(k:Int)]else syms l n s k
def dr(l:List Int):Nat->List Int
 | 0=>[]
 | N+1=>syms l ((N:Int)+1) (dr l N) l.length
def gr(l:List Int)(N j:Nat):Nat:=if 1<=j/\j<=N then many l (j:Int) l.length else 0
def fK(w:World)(b:Nat)(vl vc vs:Value)(m:Nat->Nat):Prop:=
 w.cell? ⟨b,0,none⟩=some vl/\w.cell? ⟨b,1,none⟩=some vc/\(∀j,j<16->w.cell? ⟨b,2+j,none⟩=some (.int .i64 (m j:Nat)))/\w.cell? ⟨b,18,none⟩=some vs/\(∀o,w.frozen? ⟨b,o,none⟩=false)/\b<w.heap.size
theorem fK.kept(h:fK w b vl vc vs m)(hb:Below (b+1) w w'):fK w' b vl vc vs m:=by
 obtain⟨c0,c1,c2,c3,f,c⟩:=h;have a:=a0s b;exact⟨(hb.cell (p:=⟨b,0,none⟩) a).trans c0,(hb.cell (p:=⟨b,1,none⟩) a).trans c1,fun j d=>(hb.cell (p:=⟨b,2+j,none⟩) a).trans (c2 j d),(hb.cell (p:=⟨b,18,none⟩) a).trans c3,fun o=>(hb.frozen (p:=⟨b,o,none⟩) a).trans (f o),a0h c hb.size⟩
theorem fK.other(h:fK w b vl vc vs m)(d:g≠b)(u:Value):fK (w.setCell ⟨g,o,none⟩ u) b vl vc vs m:=by
 obtain⟨c0,c1,c2,c3,f,a⟩:=h;refine⟨?_,?_,fun j c=>?_,?_,fun o=>by simpa using f o,by simpa using a⟩
 . rw[World.cell?_setCell_other _ _ _ _ (by simp only[ne_eq,a0D];omega)];exact c0
 . rw[World.cell?_setCell_other _ _ _ _ (by simp only[ne_eq,a0D];omega)];exact c1
 . rw[World.cell?_setCell_other _ _ _ _ (by simp only[ne_eq,a0D];omega)];exact c2 j c
 . rw[World.cell?_setCell_other _ _ _ _ (by simp only[ne_eq,a0D];omega)];exact c3
theorem fK.many{x:Nat}(h:fK w b vl vc vs m)(d:i<16):fK (w.setCell ⟨b,2+i,none⟩ (.int .i64 (x:Nat))) b vl vc vs (fun j=>if j=i then x else m j):=by
 obtain⟨c0,c1,c2,c3,f,a⟩:=h;refine⟨?_,?_,fun j c=>?_,?_,fun o=>by simpa using f o,by simpa using a⟩
 . rw[World.cell?_setCell_other _ _ _ _ (by simp only[ne_eq,a0D];omega)];exact c0
 . rw[World.cell?_setCell_other _ _ _ _ (by simp only[ne_eq,a0D];omega)];exact c1
 .
  by_cases e:j=i
  . subst e;rw[World.cell?_setCell_same _ _ _ (c2 j c)];simp
  . rw[World.cell?_setCell_other _ _ _ _ (by simp only[ne_eq,a0D];omega)];simp only[a0e e];exact c2 j c
 . rw[World.cell?_setCell_other _ _ _ _ (by simp only[ne_eq,a0D];omega)];exact c3
theorem fK.sorted(h:fK w b vl vc vs m)(u:Value):fK (w.setCell ⟨b,18,none⟩ u) b vl vc u m:=by
 obtain⟨c0,c1,c2,c3,f,a⟩:=h;refine⟨?_,?_,fun j c=>?_,World.cell?_setCell_same _ _ _ c3,fun o=>by simpa using f o,by simpa using a⟩
 . rw[World.cell?_setCell_other _ _ _ _ (by simp only[ne_eq,a0D];omega)];exact c0
 . rw[World.cell?_setCell_other _ _ _ _ (by simp only[ne_eq,a0D];omega)];exact c1
 . rw[World.cell?_setCell_other _ _ _ _ (by simp only[ne_eq,a0D];omega)];exact c2 j c
theorem KG(l:List Int)(n:Int)(k:Nat):many l n k<=k:=by
 induction k with
 | zero=>exact a0a _
 | succ k ih=>simp only[many];split<;>omega
theorem DR(l:List Int)(N:Nat):(fun j=>if j=N+1 then many l ((N:Int)+1) l.length else gr l N j)=gr l (N+1):=by
 funext j
 unfold gr;by_cases e:j=N+1
 .
  subst e;rw[a0d rfl,a0d ⟨by omega,by omega⟩]
  congr 1
 .
  rw[a0e e];by_cases h:1<=j/\j<=N
  . rw[a0d h,a0d ⟨h.1,by omega⟩]
  . rw[a0e h,a0e (by omega)]
theorem DT(l:List Int)(N:Nat):(fun j=>if j=N+1 then many l ((N:Int)+1) 0 else gr l N j)=gr l N:=by
 funext j
 by_cases e:j=N+1
 . subst e;rw[a0d rfl];unfold gr;rw[a0e (by omega)];rfl
 . rw[a0e e]
theorem wQ(l:List Int)(n:Int)(s:List Int)(k:Nat):(syms l n s k).length<=s.length+k:=by
 induction k with
 | zero=>exact a0a _
 | succ k ih=>
  simp only[syms]
  split
  . simp;omega
  . omega
theorem uX(l:List Int)(N:Nat):(dr l N).length<=N*l.length:=by
 induction N with
 | zero=>simp[dr]
 | succ N ih=>
  have:=wQ l ((N:Int)+1) (dr l N) l.length;simp only[dr];rw[a1o,a2H];omega
def nx(l:List Int):Nat->Nat
 | 0=>0
 | N+1=>2*nx l N+many l ((N:Int)+1) l.length
def pl(l:List Int):Nat->Nat
 | 0=>0
 | N+1=>pl l N+many l ((N:Int)+1) l.length
theorem ES(l:List Int)(n:Int)(s:Nat×List Int)(k:Nat):(inn l n s k).1=s.1+many l n k:=by
 induction k with
 | zero=>rfl
 | succ k ih=>
  simp only[inn,many]
  split
  . simp only[ih];omega
  . exact ih
theorem Lc(l:List Int)(N:Nat):(bj l N).1=nx l N:=by
 induction N with
 | zero=>rfl
 | succ N ih=>simp only[bj,nx];rw[ES,ih]
theorem Nn(l:List Int)(n:Int)(s:Nat×List Int)(k i:Nat)(b:i<s.2.length):(inn l n s k).2.getD i 0=if i<k/\l.getD i 0=n then((s.1+many l n i:Nat):Int)else s.2.getD i 0:=by
 induction k with
 | zero=>simp[inn]
 | succ k ih=>
  simp only[inn]
  split
  case isTrue h=>
   by_cases e:i=k
   .
    subst e;have c:i<(inn l n s i).2.length:=by rw[su];exact b
    rw[a0d ⟨a0s _,h⟩];simp only[List.getD,List.getElem?_set_self c,a1L];rw[ES]
   .
    have e2:((inn l n s k).2.set k ((inn l n s k).1:Int)).getD i 0=(inn l n s k).2.getD i 0:=by
     simp only[List.getD];rw[List.getElem?_set_ne (Ne.symm e)]
    simp only;rw[e2,ih];by_cases h2:i<k
    . simp[h2,Nat.lt_succ_of_lt h2]
    . rw[a0e (by omega),a0e (by omega)]
  case isFalse h=>
   rw[ih];by_cases e:i=k
   . subst e;rw[a0e (by omega),a0e (fun a=>h a.2)]
   .
    by_cases h2:i<k
    . simp[h2,Nat.lt_succ_of_lt h2]
    . rw[a0e (by omega),a0e (by omega)]
def fo(l:List Int)(i:Nat):Nat:=2*nx l ((l.getD i 0).toNat-1)+many l (l.getD i 0) i
theorem AU(l:List Int)(N i:Nat)(a:i<l.length):(bj l N).2.getD i 0=if 1<=l.getD i 0/\l.getD i 0<=(N:Int)then(fo l i:Int)else 0:=by
 induction N with
 | zero=>
  rw[a0e (by omega)];simp[bj,List.getD,a]
 | succ N ih=>
  simp only[bj];rw[Nn _ _ _ _ _ (by simp only[cq];exact a)];simp only;by_cases e:l.getD i 0=(N:Int)+1
  .
   rw[a0d ⟨a,e⟩,a0d ⟨by omega,by omega⟩,Lc];unfold fo;rw[e];have:((N:Int)+1).toNat-1=N:=by omega
   rw[this]
  .
   rw[a0e (fun b=>e b.2),ih];by_cases h2:1<=l.getD i 0/\l.getD i 0<=(N:Int)
   . rw[a0d h2,a0d ⟨h2.1,by omega⟩]
   . rw[a0e h2,a0e (by omega)]
/-! Kraft's sum, by lengths. -/
def krU(N:Nat)(l:List Int):Nat:=(l.map (fun b=>if 0<b/\b<=(N:Int)then p2 (15-b).toNat else 0)).sum
theorem OV(N:Nat)(l:List Int):krU N l<=kr l:=by
 induction l with
 | nil=>exact a0a _
 | cons b l ih=>
  simp only[krU,kr,krN,a0C,a0M]at ih ⊢
  split<;>split<;>omega
theorem GR(b:Int)(l:List Int)(n:Int)(k:Nat):many (b :: l) n (k+1)=(if b=n then 1 else 0)+many l n k:=by
 induction k with
 | zero=>simp[many]
 | succ k ih=>
  have e:many (b :: l) n (k+1+1)=if (b :: l).getD (k+1) 0=n then many (b :: l) n (k+1)+1 else many (b :: l) n (k+1):=rfl
  have e2:(b :: l).getD (k+1) 0=l.getD k 0:=by simp[List.getD]
  rw[e,e2,ih];simp only[many]
  split<;>split<;>omega
theorem Kf(N:Nat)(a:N<15)(l:List Int):krU (N+1) l=krU N l+many l ((N:Int)+1) l.length*p2 (14-N):=by
 induction l with
 | nil=>simp[krU,many]
 | cons b l ih=>
  rw[a0A,GR,a1o];simp only[krU,a0C,a0M]at ih ⊢;rw[ih];by_cases e:b=(N:Int)+1
  .
   rw[a0d (by omega),a0e (by omega),a0d e];have:(15-b).toNat=14-N:=by omega
   rw[this];omega
  .
   rw[a0e e];by_cases h:0<b/\b<=(N:Int)
   . rw[a0d h,a0d (by omega)];omega
   . rw[a0e h,a0e (by omega)];omega
theorem PT(l:List Int)(N:Nat)(a:N<=15):nx l N*p2 (15-N)=krU N l:=by
 induction N with
 | zero=>
  have:krU 0 l=0:=by
   induction l with
   | nil=>rfl
   | cons b l ih=>
    simp only[krU,a0C,a0M]at ih ⊢;rw[ih,a0e (by omega)]
  rw[this];simp[nx]
 | succ N ih=>
  rw[Kf N (by omega),←ih (by omega)];have e1:15-N=(14-N)+1:=by omega
  have e2:15-(N+1)=14-N:=by omega
  rw[e1,e2,jB];simp only[nx];rw[a1o,a1d 2,a1G,a1d 2]
theorem PQ(h:av l=true):kr l<=32768:=by
 simp only[av,oF,a0j,a1f,a2A]at h;omega
theorem Ou(h:av l=true)(N:Nat)(a:N<=15):nx l N<=p2 N:=by
 have c:=PT l N a;have h2:=OV N l;have d:=PQ h;have e:p2 N*p2 (15-N)=32768:=by
  unfold p2;rw[←a0Q];have:N+(15-N)=15:=by omega
  rw[this]
 have b:=qA (15-N);exact Nat.le_of_mul_le_mul_right (by omega:nx l N*p2 (15-N)<=p2 N*p2 (15-N)) b
theorem yh{n:Int}(a:l.getD i 0=n):∀k,i<k->many l n i<many l n k:=by
 intro k b;induction k with
 | zero=>omega
 | succ k ih=>
  by_cases e:i=k
  . subst e;simp only[many];rw[a0d a];omega
  .
   have:=ih (by omega);simp only[many]
   split<;>omega
theorem ml(h:inL l=true)(a:i<l.length):0<=l.getD i 0/\l.getD i 0<=15:=by
 have:=a03.1 h (l.getD i 0) (by simp[List.getD,a]);exact aI.1 this
theorem fV(h:av l=true):inL l=true:=by
 simp only[av,a0j]at h;exact h.1.1
theorem vK(h:av l=true)(b:i<l.length)(d:1<=l.getD i 0):fo l i<p2 (l.getD i 0).toNat/\fo l i<nx l (l.getD i 0).toNat:=by
 obtain⟨_,hb⟩:=ml (fV h) b;obtain⟨n,hn⟩:∃n:Nat,l.getD i 0=(n:Int)+1:=⟨(l.getD i 0).toNat-1,by omega⟩;have a:=Ou h (n+1) (by omega);have c:=yh hn l.length b;have e1:(l.getD i 0).toNat=n+1:=by omega
 unfold fo;rw[e1,hn];simp only[nx,a3v]at a ⊢;omega
theorem FU(h:av l=true)(b:i<l.length):(bj l 15).2.getD i 0=if 1<=l.getD i 0 then(fo l i:Int)else 0:=by
 rw[AU l 15 i b];have:=(ml (fV h) b).2;by_cases a:1<=l.getD i 0
 . rw[a0d a,a0d ⟨a,by omega⟩]
 . rw[a0e a,a0e (by omega)]
/-! Symbols in their order. -/
theorem pJ(l:List Int)(n:Int)(s:List Int)(k:Nat):(syms l n s k).length=s.length+many l n k:=by
 induction k with
 | zero=>rfl
 | succ k ih=>
  simp only[syms,many]
  split
  . simp[ih];omega
  . exact ih
theorem pI(l:List Int)(N:Nat):(dr l N).length=pl l N:=by
 induction N with
 | zero=>rfl
 | succ N ih=>simp only[dr,pl];rw[pJ,ih]
theorem L4(l:List Int)(n:Int)(s:List Int)(k j:Nat)(b:j<s.length):(syms l n s k).getD j 0=s.getD j 0:=by
 induction k with
 | zero=>rfl
 | succ k ih=>
  simp only[syms]
  split
  .
   have a:j<(syms l n s k).length:=by rw[pJ];omega
   rw[←ih];simp only[List.getD];rw[List.getElem?_append_left a]
  . exact ih
theorem L3(l:List Int)(n:Int)(s:List Int)(k i:Nat)(d:i<k)(a:l.getD i 0=n):(syms l n s k).getD (s.length+many l n i) 0=(i:Int):=by
 induction k with
 | zero=>omega
 | succ k ih=>
  simp only[syms];by_cases e:i=k
  . subst e;rw[a0d a];simp only[List.getD];rw[List.getElem?_append_right (by rw[pJ];omega),pJ];simp
  .
   have c:=yh a k (by omega)
   split
   .
    have b:s.length+many l n i<(syms l n s k).length:=by rw[pJ];omega
    rw[←ih (by omega)];simp only[List.getD];rw[List.getElem?_append_left b]
   . exact ih (by omega)
theorem wP (l : List Int) (N n i : Nat) (hi : i < l.length) (hn : l.getD i 0 = (n : Int) + 1) (hN : n < N) : (dr l N).getD (pl l n + many l ((n : Int) + 1) i) 0 = (i : Int) := by
  induction N with
  | zero => omega
  | succ N ih =>
    by_cases e : n = N
    . subst e
      simp only [dr]
      rw [← pI]
      exact L3 l _ _ _ i hi hn
    . simp only [dr]
      have hlt := yh hn l.length hi
      have hmono : pl l (n + 1) ≤ pl l N := by
        have : ∀ a b, a ≤ b → pl l a ≤ pl l b := by
          intro a b hab
          induction b with
          | zero => have : a = 0 := by omega
                    rw [this]; exact a0a _
          | succ b ihb =>
            by_cases e2 : a = b + 1
            . rw [e2]; exact a0a _
            . have := ihb (by omega)
              simp only [pl]; omega
        exact this _ _ (by omega)
      have hp : pl l (n + 1) = pl l n + many l ((n : Int) + 1) l.length := rfl
      rw [L4 _ _ _ _ _ (by rw [pI]; omega)]
      exact ih (by omega)
theorem Nx(l:List Int)(n:Int)(k t:Nat)(h:t<many l n k):∃i,i<k/\l.getD i 0=n/\many l n i=t:=by
 induction k with
 | zero=>simp[many]at h
 | succ k ih=>
  simp only[many]at h
  split at h
  case isTrue hn=>
   by_cases e:t=many l n k
   . exact⟨k,a0s _,hn,e.symm⟩
   . obtain⟨i,b,a,h2⟩:=ih (by omega);exact⟨i,by omega,a,h2⟩
  case isFalse=>
   obtain⟨i,b,a,h2⟩:=ih h;exact⟨i,by omega,a,h2⟩
def nJ(i:Nat):Int:=if i<144 then 8 else if i<256 then 9 else if i<280 then 7 else 8
def bQ(k:Nat):List Int:=(List.range k).map nJ
theorem cM(k:Nat):(bQ k).length=k:=by simp[bQ]
theorem nb(k:Nat):bQ (k+1)=bQ k++[nJ k]:=by simp[bQ,a3w]
theorem Ad(w:World) :
  Calls prog 199 #[] w fun e w'=>∃v,e = .returned v/\al w' w.heap.size v (List.replicate 32 5)/\Below w.heap.size w w':=by
 obtain⟨i0,x,q,r,s⟩:=a0r Tryz.infoInt;have o:Hid (al (w.alloc (.cells #[] 3)) w.heap.size (.slice (some ⟨w.heap.size,0,none⟩) 0 0) []):=al.lit _ _ (a0a _);have m:Hid (Below w.heap.size w (w.alloc (.cells #[] 3))):=(a0c _ _).alloc (a0a _) _;go_enter func199,ntmps199;go_wp2_with fail
 go_loopw [1,2] (fun v i wr=>∃k:Nat,k<=32/\i = .int .i64 k/\al wr w.heap.size v (List.replicate k 5)/\Below w.heap.size w wr) (fun _ i _=>32-(intOf i).toNat)
 case atStart=>exact⟨0,a0g _,rfl,ae o,ae m⟩
 case round=>
  obtain⟨k,A,rfl,hq,a⟩:=hrel;have c:Hid ((List.replicate k (5:Int)).length=k):=a0y;obtain⟨va,vc,rfl⟩:=hq.formN (ae c);have y:(k:Int)<=32:=by omega
  by_cases z:k<32
  .
   have u:(k:Int)<32:=by omega
   have p:Hid (List.replicate k (5:Int)++[5]=List.replicate (k+1) 5):=by show _=_;rw[List.replicate_succ']
   have t:Hid (k+1<=maxLen/\(k+1)*8<=140737488355328):=by show _/\_;unfold maxLen;omega
   have l:=af (hq.own (ae c));have g:=a.size;have f:=af a;clear hq a;go_wp2_with (at_builtin;refine a0B _ rfl _ _ 97 rfl w.heap.size 3 i0 (.int .i64 0) 1 8 a0G x q r s rfl (by decide) (.slice va k vc) _ _ rfl (a0m (ae l) _) ⟨wr.heap.size,0,none⟩ 1 1 [.int .i64 5] rfl rfl (dB _ _ rfl _ _) (ib _) (ae t).1 (ae t).2 (au g _) ?_;intro v' x2 d b h;clear h);have n:=aH (v:=.slice va k vc) b (ae l) (a0a _) g (ae f);have j:=fR (ae c) d;rw[ae p]at j;clear d b;go_wp2;go_roundw
   case rel=>exact⟨k+1,by omega,by go_num,j,n⟩
   case measure=>simp[intOf];omega
  .
   obtain rfl:k=32:=by omega
   go_wp2;go_ret;exact⟨_,rfl,hq,a⟩
theorem Ae(w:World) :
  Calls prog 198 #[] w fun e w'=>∃v,e = .returned v/\al w' w.heap.size v (bQ 288)/\Below w.heap.size w w':=by
 obtain⟨i0,t,p,q,r⟩:=a0r Tryz.infoInt;have x:Hid (al (w.alloc (.cells #[] 3)) w.heap.size (.slice (some ⟨w.heap.size,0,none⟩) 0 0) (bQ 0)):=al.lit _ _ (a0a _);have u:Hid (Below w.heap.size w (w.alloc (.cells #[] 3))):=(a0c _ _).alloc (a0a _) _;go_enter func198,ntmps198;go_wp2_with fail
 go_loopw [1,2] (fun v i wr=>∃k:Nat,k<=288/\i = .int .i64 k/\al wr w.heap.size v (bQ k)/\Below w.heap.size w wr) (fun _ i _=>288-(intOf i).toNat)
 case atStart=>exact⟨0,a0g _,rfl,ae x,ae u⟩
 case round=>
  obtain⟨k,D,rfl,hq,o⟩:=hrel;have f:=af (cM k);obtain⟨va,vc,rfl⟩:=hq.formN (ae f);have z:(k:Int)<=288:=by omega
  by_cases A:k<288
  .
   have y:(k:Int)<288:=by omega
   have s:Hid (k+1<=maxLen/\(k+1)*8<=140737488355328):=by show _/\_;unfold maxLen;omega
   have h:=af (hq.own (ae f));have g:=o.size;have n:=af o;clear hq o;by_cases B:(k:Int)<144
   .
    have j:Hid (nJ k=8):=by show _=_;unfold nJ;rw[a0d (by omega)]
    have m:Hid (bQ k++[8]=bQ (k+1)):=by show _=_;rw[nb,ae j]
    go_wp2_with (at_builtin;refine a0B _ rfl _ _ 97 rfl w.heap.size 3 i0 (.int .i64 0) 1 8 a0G t p q r rfl (by decide) (.slice va k vc) _ _ rfl (a0m (ae h) _) ⟨wr.heap.size,0,none⟩ 1 1 [.int .i64 8] rfl rfl (dB _ _ rfl _ _) (ib _) (ae s).1 (ae s).2 (au g _) ?_;intro v' x2 b a c;clear c);have l:=aH (v:=.slice va k vc) a (ae h) (a0a _) g (ae n);have d:=fR (ae f) b;rw[ae m]at d;clear b a;go_wp2;go_roundw
    case rel=>exact⟨k+1,by omega,by go_num,d,l⟩
    case measure=>simp[intOf];omega
   .
    by_cases h2:(k:Int)<256
    .
     have j:Hid (nJ k=9):=by show _=_;unfold nJ;rw[a0e (by omega),a0d (by omega)]
     have m:Hid (bQ k++[9]=bQ (k+1)):=by show _=_;rw[nb,ae j]
     go_wp2_with (at_builtin;refine a0B _ rfl _ _ 97 rfl w.heap.size 3 i0 (.int .i64 0) 1 8 a0G t p q r rfl (by decide) (.slice va k vc) _ _ rfl (a0m (ae h) _) ⟨wr.heap.size,0,none⟩ 1 1 [.int .i64 9] rfl rfl (dB _ _ rfl _ _) (ib _) (ae s).1 (ae s).2 (au g _) ?_;intro v' x2 b a c;clear c);have l:=aH (v:=.slice va k vc) a (ae h) (a0a _) g (ae n);have d:=fR (ae f) b;rw[ae m]at d;clear b a;go_wp2;go_roundw
     case rel=>exact⟨k+1,by omega,by go_num,d,l⟩
     case measure=>simp[intOf];omega
    .
     by_cases C:(k:Int)<280
     .
      have j:Hid (nJ k=7):=by show _=_;unfold nJ;rw[a0e (by omega),a0e (by omega),a0d (by omega)]
      have m:Hid (bQ k++[7]=bQ (k+1)):=by show _=_;rw[nb,ae j]
      go_wp2_with (at_builtin;refine a0B _ rfl _ _ 97 rfl w.heap.size 3 i0 (.int .i64 0) 1 8 a0G t p q r rfl (by decide) (.slice va k vc) _ _ rfl (a0m (ae h) _) ⟨wr.heap.size,0,none⟩ 1 1 [.int .i64 7] rfl rfl (dB _ _ rfl _ _) (ib _) (ae s).1 (ae s).2 (au g _) ?_;intro v' x2 b a c;clear c);have l:=aH (v:=.slice va k vc) a (ae h) (a0a _) g (ae n);have d:=fR (ae f) b;rw[ae m]at d;clear b a;go_wp2;go_roundw
      case rel=>exact⟨k+1,by omega,by go_num,d,l⟩
      case measure=>simp[intOf];omega
     .
      have j:Hid (nJ k=8):=by show _=_;unfold nJ;rw[a0e (by omega),a0e (by omega),a0e (by omega)]
      have m:Hid (bQ k++[8]=bQ (k+1)):=by show _=_;rw[nb,ae j]
      go_wp2_with (at_builtin;refine a0B _ rfl _ _ 97 rfl w.heap.size 3 i0 (.int .i64 0) 1 8 a0G t p q r rfl (by decide) (.slice va k vc) _ _ rfl (a0m (ae h) _) ⟨wr.heap.size,0,none⟩ 1 1 [.int .i64 8] rfl rfl (dB _ _ rfl _ _) (ib _) (ae s).1 (ae s).2 (au g _) ?_;intro v' x2 b a c;clear c);have l:=aH (v:=.slice va k vc) a (ae h) (a0a _) g (ae n);have d:=fR (ae f) b;rw[ae m]at d;clear b a;go_wp2;go_roundw
      case rel=>exact⟨k+1,by omega,by go_num,d,l⟩
      case measure=>simp[intOf];omega
  .
   obtain rfl:k=288:=by omega
   go_wp2;go_ret;exact⟨_,rfl,hq,o⟩
def fnd(L G num:Nat):Nat->Nat
 | 0=>0
 | k+1=>if num<(stF L G (k+1)).1 then fnd L G num k else k+1
theorem gn(L G num k:Nat):fnd L G num k<=k:=by
 induction k with
 | zero=>exact a0a _
 | succ k ih=>simp only[fnd];split<;>omega
theorem JN{num:Nat}(h:num<(stF L G (k+1)).1):fnd L G num (k+1)=fnd L G num k:=by simp only[fnd];rw[a0d h]
theorem JO{num:Nat}(h:¬ num<(stF L G k).1):fnd L G num k=k:=by
 cases k with
 | zero=>rfl
 | succ k=>simp only[fnd];rw[a0e h]
theorem yA(e:L<=3)(a:1<=G)(b:G<=4)(f:k/G<=15):(stF L G k).1<=200000/\(stF L G k).2<=14:=by
 unfold stF
 split
 . simp only;omega
 .
  have c:p2 (k/G-1)<=p2 14:=a0T (by omega) (by omega);have h2:p2 14=16384:=by decide
  have d:(G+k%G)*p2 (k/G-1)<=8*16384:=a2m (by have:=a1t k a;omega) (by omega);simp only;omega
theorem qt{x:Value}(h:w.heap[b]?=some (Obj.cells #[x,y] t))(u v:Value):((w.setCell ⟨b,0,none⟩ u).setCell ⟨b,1,none⟩ v).heap[b]?=some (Obj.cells #[u,v] t):=by
 have a:(w.setCell ⟨b,0,none⟩ u).heap[b]?=some (Obj.cells #[u,y] t):=by
  show(w.heap.modify b _)[b]?=_;rw[Array.getElem?_modify,a0d rfl,h];simp
 generalize w.setCell ⟨b,0,none⟩ u=W at *
 show(W.heap.modify b _)[b]?=_;rw[Array.getElem?_modify,a0d rfl,a];simp
theorem ng{x:Value}(h:w.heap[b]?=some (Obj.cells #[x,y] t)):w.frozen? ⟨b,0,none⟩=false/\w.frozen? ⟨b,1,none⟩=false:=⟨by simp[World.frozen?,h],by simp[World.frozen?,h]⟩
theorem zy(L G M num:Nat)(w:World)(O:L<=3)(N:1<=G)(r:G<=4)(P:1<=M)(hM:M<=30)(l:(M-1)/G<=15)(z:L<=num)(hn:num<=1000) :
  CD 187 #[.agg #[.int .i64 (L:Nat),.int .i64 (G:Nat),.int .i64 (M:Nat)],.int .i64 (num:Nat)] w (.tuple #[.int .i64 (fnd L G num (M-1):Nat),.agg #[.int .i64 ((num:Int)-((stF L G (fnd L G num (M-1))).1:Int)),.int .i64 ((stF L G (fnd L G num (M-1))).2:Nat)]]):=by
 obtain⟨q,hq⟩:∃q,M-1=q:=⟨_,rfl⟩;have ac:(M:Int)-1=(q:Int):=by omega
 have aa:(M:Int)<=30:=by omega
 have ab:(num:Int)<=1000:=by omega
 rw[hq]at l ⊢;have Q:=af (fun k (t:k<=q) W=>Bv L G M k W O N r (a0L (Nat.div_le_div_right t) l) (by omega));have V:=af (fun k (t:k<=q)=>yA (L:=L) (G:=G) (k:=k) O N r (a0L (Nat.div_le_div_right t) l));have U:Hid ((stF L G 0).1=L):=by show _=_;unfold stF;rw[a0d (by omega)];simp
 have Z:=af z;have x:Hid (((w.alloc (.cells #[.int .i64 (L:Nat),.int .i64 (G:Nat),.int .i64 (M:Nat)] 260)).alloc (.cells #[.int .i64 0,.int .i64 0] 139)).heap[w.heap.size]?=some (Obj.cells #[.int .i64 (L:Nat),.int .i64 (G:Nat),.int .i64 (M:Nat)] 260)):=(a1i _ _ _ (by simp)).trans (alloc_at _ _);have y:Hid (((w.alloc (.cells #[.int .i64 (L:Nat),.int .i64 (G:Nat),.int .i64 (M:Nat)] 260)).alloc (.cells #[.int .i64 0,.int .i64 0] 139)).heap[w.heap.size+1]?=some (Obj.cells #[.int .i64 0,.int .i64 0] 139)):=by
  have e:(w.alloc (.cells #[.int .i64 (L:Nat),.int .i64 (G:Nat),.int .i64 (M:Nat)] 260)).heap.size=w.heap.size+1:=by simp
  have:=alloc_at (w.alloc (.cells #[.int .i64 (L:Nat),.int .i64 (G:Nat),.int .i64 (M:Nat)] 260)) (.cells #[.int .i64 0,.int .i64 0] 139);rw[e]at this;exact this
 have H:Hid (Below w.heap.size w ((w.alloc (.cells #[.int .i64 (L:Nat),.int .i64 (G:Nat),.int .i64 (M:Nat)] 260)).alloc (.cells #[.int .i64 0,.int .i64 0] 139))):=((a0c _ w).alloc (a0a _) _).alloc (by simp) _;clear O N r P hM l z hn hq;go_enter func187,ntmps187;go_wp2_with fail;refine(ae Q q (a0a _) _).mono ?_;rintro e x1 ⟨rfl,a⟩;have m:Hid (x1.heap[w.heap.size]?=some (Obj.cells #[.int .i64 (L:Nat),.int .i64 (G:Nat),.int .i64 (M:Nat)] 260)):=(a.block _ (dm (ae x))).trans (ae x);have o:Hid (x1.heap[w.heap.size+1]?=some (Obj.cells #[.int .i64 0,.int .i64 0] 139)):=(a.block _ (dm (ae y))).trans (ae y);have I:=af (ah (ae H) a);clear a;go_wp2_with fail
 go_loopw [6,7,8] (fun s f b wr=>∃k:Nat,k<=q/\s = .int .i64 k/\f = .int .i64 ((stF L G k).1:Nat)/\b = .int .i64 ((stF L G k).2:Nat)/\fnd L G num q=fnd L G num k/\Below x1.heap.size x1 wr) (fun s _ _ _=>(intOf s).toNat)
 case atStart=>exact⟨q,a0a _,rfl,rfl,rfl,rfl,a0c _ _⟩
 case round=>
  obtain⟨k,t,rfl,rfl,rfl,R,g⟩:=hrel;have D:=af R;obtain⟨a,d⟩:=ae V k t;have n:=(g.block _ (dm (ae m))).trans (ae m);have h:=(g.block _ (dm (ae o))).trans (ae o);obtain⟨c0,c1,c2,_⟩:=zW n;obtain⟨d0,d1,_⟩:=dc h;obtain⟨f0,f1⟩:=ng h;have K:=af (ah (ae I) g);clear R;by_cases i:num<(stF L G k).1
  .
   obtain⟨j,rfl⟩:∃j,k=j+1:=by
    cases k with
    | zero=>rw[ae U]at i;have:=ae Z;omega
    | succ j=>exact⟨j,rfl⟩
   have A:=af (JN i);have c:(num:Int)<((stF L G (j+1)).1:Int):=by omega
   have S:j<=q:=by omega
   have Y:=af (ae Q j S);obtain⟨u,hu⟩:∃u:Nat,j+1=u:=⟨_,rfl⟩;have ad:(u:Int)-1=(j:Int):=by omega
   rw[hu]at c A D a d ⊢;generalize stF L G u=E at *
   obtain⟨E1,E2⟩:=E;simp only at c a d ⊢;have T:(u:Int)<=31:=by omega
   clear i hu a d t;go_wp2_with fail;refine(ae Y _).mono ?_;rintro e x2 ⟨rfl,d⟩;go_wp2;go_roundw
   case rel=>exact⟨j,S,by go_num,rfl,rfl,by rw[ae D,ae A],ah g d⟩
   case measure=>simp[intOf];omega
  .
   have C:=af (JO i);have c:((stF L G k).1:Int)<=(num:Int):=by omega
   have F:Hid (fnd L G num q=k):=by show _=_;rw[ae D,ae C]
   obtain⟨E1,E2,hE⟩:∃E1 E2,stF L G k=(E1,E2):=⟨_,_,rfl⟩;have X:=af hE;rw[hE]at c a d ⊢;simp only at c a d ⊢;have B:=af (qt h (.int .i64 ((num:Int)-(E1:Int))) (.int .i64 (E2:Nat)));have J:Hid (Below w.heap.size w ((wr.setCell ⟨w.heap.size+1,0,none⟩ (.int .i64 ((num:Int)-(E1:Int)))).setCell ⟨w.heap.size+1,1,none⟩ (.int .i64 (E2:Nat)))):=((ae K).setCell (p:=⟨w.heap.size+1,0,none⟩) (a07 _) _).setCell (p:=⟨w.heap.size+1,1,none⟩) (a07 _) _;clear i t D C hE n h;go_wp2;obtain⟨z0,z1,_⟩:=dc (ae B);refine a0u (v:=.tuple #[.int .i64 (k:Nat),.agg #[.int .i64 ((num:Int)-(E1:Int)),.int .i64 (E2:Nat)]]) (by simp[results,results187,go_sem,z0,z1]) rfl ⟨?_,ae J⟩;rw[ae F,ae X]
structure fm (B:Nat) (w w':World):Prop where
 below:Below B w w'
 keep:∀k,k<w.heap.size->(∀cur fr,w.heap[k]?≠some (.cells cur 5 fr))->w'.heap[k]?=w.heap[k]?
theorem fm.refl(B:Nat)(w:World):fm B w w:=⟨a0c _ _,fun _ _ _=>rfl⟩
theorem fm.size(h:fm B w w'):w.heap.size<=w'.heap.size:=h.1.size
theorem fm.trans(h:fm B w w1)(k:fm B w1 w2):fm B w w2:=
 ⟨h.1.trans k.1,fun j a b=>(k.2 j (a0h a h.size) (by rw[h.2 j a b];exact b)).trans (h.2 j a b)⟩
theorem fm.alloc(h:fm B w w')(b:B<=w'.heap.size)(o:Obj):fm B w (w'.alloc o):=
 ⟨h.1.alloc b o,fun j a c=>(a1i w' o j (a0h a h.size)).trans (h.2 j a c)⟩
theorem fm.drew(h:fm B w w'):fm B w w'.drew:=⟨h.1.drew,h.2⟩
theorem fm.later{w'':World}(h:fm B w w')(hb:Below w'.heap.size w' w'')(b:B<=w'.heap.size):fm B w w'':=
 ⟨h.1.trans (hb.mono b),fun j a c=>(hb.block j (a0h a h.size)).trans (h.2 j a c)⟩
theorem rh{y:World}{o:Obj}{size base:Nat}(f:(y.alloc o).grownBy y' v.ownBlock)(k:y.ownsRow base 5 size v n xs)(b:B<=base)(m:B<=y.heap.size)(hb:fm B x y):fm B x y':=by
 refine⟨aH f k b m hb.1,fun j h i=>?_⟩;have a:=hb.2 j h i;have d:j<y.heap.size:=a0h h hb.size;rw[f.block j (by simp;omega) ?_,a1i y o j d]
 . exact a
 .
  intro e;rcases k.2 with⟨rfl,_⟩|⟨g,cap,l,rfl,_,c,_⟩
  . cases e
  . simp only[Value.ownBlock,a0k]at e;subst e;rw[c]at a;exact i _ _ a.symm
theorem fm.grown{y:World}{row:Option Nat}(h:fm B x y)(c:y.grownBy y' row)(i:B<=y.heap.size)(k:∀g,row=some g->B<=g)(l:∀g,row=some g->∃a fr,y.heap[g]?=some (.cells a 5 fr)):fm B x y':=by
 refine⟨h.1.grown c i k,fun j d f=>?_⟩;have b:=h.2 j d f;rw[c.block j (a0h d h.size) ?_]
 . exact b
 . intro e;obtain⟨a,fr,h2⟩:=l j e.symm;rw[h2]at b;exact f _ _ b.symm
theorem nN(w:World) :
  CD 186 #[] w (.agg #[.int .i64 3,.int .i64 4,.int .i64 28]):=by
 go_enter func186,ntmps186;go_wp2;refine a0u (v:=.agg #[.int .i64 3,.int .i64 4,.int .i64 28]) (by simp[results,results186,go_sem]) rfl ⟨rfl,(a0c _ w).alloc (a0a _) _⟩
theorem nF(w:World) :
  CD 188 #[] w (.agg #[.int .i64 1,.int .i64 2,.int .i64 30]):=by
 go_enter func188,ntmps188;go_wp2;refine a0u (v:=.agg #[.int .i64 1,.int .i64 2,.int .i64 30]) (by simp[results,results188,go_sem]) rfl ⟨rfl,(a0c _ w).alloc (a0a _) _⟩
theorem xK(num:Nat)(w:World)(a:3<=num)(b:num<=60) :
  CD 187 #[.agg #[.int .i64 3,.int .i64 4,.int .i64 28],.int .i64 (num:Nat)] w (.tuple #[.int .i64 (fnd 3 4 num 27:Nat),.agg #[.int .i64 ((num:Int)-((stF 3 4 (fnd 3 4 num 27)).1:Int)),.int .i64 ((stF 3 4 (fnd 3 4 num 27)).2:Nat)]]):=
 zy 3 4 28 num w (by omega) (by omega) (by omega) (by omega) (by omega) (by decide) a (by omega)
theorem xJ(num:Nat)(w:World)(a:1<=num)(b:num<=250) :
  CD 187 #[.agg #[.int .i64 1,.int .i64 2,.int .i64 30],.int .i64 (num:Nat)] w (.tuple #[.int .i64 (fnd 1 2 num 29:Nat),.agg #[.int .i64 ((num:Int)-((stF 1 2 (fnd 1 2 num 29)).1:Int)),.int .i64 ((stF 1 2 (fnd 1 2 num 29)).2:Nat)]]):=
 zy 1 2 30 num w (by omega) (by omega) (by omega) (by omega) (by omega) (by decide) a (by omega)
def uP(l:List ByteArray):List Value:=l.map Value.string
def dz(w:World)(base:Nat)(v:Value)(l:List ByteArray):Prop:=w.ownsRow base 9 1 v l.length (uP l)
theorem dz.form{base:Nat}{l:List ByteArray}(h:dz w base v l):∃a cap,v = .slice a l.length cap:=by
 rcases h.2 with⟨e,b⟩|⟨g,cap,_,e,_⟩
 . exact⟨none,0,by rw[e,b]⟩
 . exact⟨_,cap,e⟩
theorem dz.formN{base:Nat}{l:List ByteArray}(b:l.length=n)(h:dz w base v l):∃a cap,v = .slice a n cap:=by
 subst b;exact h.form
theorem dz.own{base:Nat}{l:List ByteArray}(a:l.length=n)(h:dz w base v l):w.ownsRow base 9 1 v n (uP l):=by
 subst a;exact h
theorem dz.at{base:Nat}{cap:Nat}{l:List ByteArray}(f:l.length=n)(h:dz w base (.slice a n cap) l)(i:0<n) :
  ∃g,a=some ⟨g,0,none⟩/\g<w.heap.size/\∀j,j<n->w.cell? ⟨g,j,none⟩=some (.string (l.getD j ByteArray.empty)):=by
 subst f;rcases h.2 with⟨_,e⟩|⟨g,b,c,e,_⟩
 . omega
 . simp only[a0J]at e;obtain⟨rfl,_,rfl⟩:=e;refine⟨g,rfl,(a0E h g rfl).2,fun j d=>?_⟩;rw[a02 h j (by omega)];simp[uP,d,List.getD]
theorem dz.lit(w:World)(base:Nat)(hb:base<=w.heap.size):dz (w.alloc (.cells #[] 9)) base (.slice (some ⟨w.heap.size,0,none⟩) 0 0) []:=a0Y w #[] 0 hb (by unfold maxLen;omega) rfl
theorem kJ{base:Nat}{l:List ByteArray}{b:ByteArray}(a:l.length=n)(h:x.ownsRow base 9 1 v (n+1) (uP l++[.string b])):dz x base v (l++[b]):=by
 subst a;show World.ownsRow _ _ _ _ _ (l++[b]).length _;simpa[uP]using h
theorem Tryz.infoStr:(prog.info? 9).map (fun i=>(i.zero,i.size,i.bytes))=some (some (.string ByteArray.empty),1,16):=by kernel_rfl
theorem Fc(x:ByteArray):∀u∈[Value.string x],u.oneCell'=true:=by
 intro u a;simp at a;subst a;rfl
theorem CJ(s:ByteArray)(w:World):∃(c:Nat) (x:World) (cs:Array Value) (f:Nat×Nat),(convert 9 22 (.string s)).run prog w = .ok (.slice (some ⟨w.heap.size,0,none⟩) s.size c) x/\Below w.heap.size w x/\x.heap[w.heap.size]?=some (.cells cs 5 f)/\∀i (h:i<s.size),cs[i]?=some (.int .u8 (s[i].toNat:Int)):=by
 refine⟨_,_,bytesRow s (grownCap w s.size 0 5),((bytesRow s (grownCap w s.size 0 5)).size,(bytesRow s (grownCap w s.size 0 5)).size+1),run_bytes_of_string w _ _ _ s a2c a06 a2b,?_,?_,?_⟩
 . exact((a0c _ w).drew).alloc (by simp) _
 . exact Array.getElem?_push_size
 . intro i h;exact bytesRow_at s (grownCap w s.size 0 5) i h
theorem Ib{a:Array Value}(h:w.heap[b]?=some (.cells a t f))(c:a[i]?=some v):w.cell? ⟨b,i,none⟩=some v:=by
 unfold World.cell?;rw[h];exact c
theorem ext_list(s:ByteArray)(i j:Nat):(s.extract i j).data.toList=(s.data.toList.drop i).take (j-i):=by
 rw[ByteArray.data_extract,Array.toList_extract]
def four(a b c d:ByteArray):Nat->ByteArray
 | 0=>a | 1=>b | 2=>c|_=>d
def seven(a b c d e f g:ByteArray):Nat->ByteArray
 | 0=>a | 1=>b | 2=>c | 3=>d | 4=>e | 5=>f|_=>g
theorem zI(w:World)(a b c d:ByteArray)(t:TypeId):∀i,i<4->(w.alloc (.cells #[.string a,.string b,.string c,.string d] t)).cell? ⟨w.heap.size,0+i,none⟩=some (.string (four a b c d i)):=by
 intro i e
 match i,e with
 | 0,_=>simp[four]
 | 1,_=>simp[four]
 | 2,_=>simp[four]
 | 3,_=>simp[four]
theorem Bo(w:World)(a b c d e f g:ByteArray)(t:TypeId):∀i,i<7->(w.alloc (.cells #[.string a,.string b,.string c,.string d,.string e,.string f,.string g] t)).cell? ⟨w.heap.size,0+i,none⟩=some (.string (seven a b c d e f g i)):=by
 intro i h
 match i,h with
 | 0,_=>simp[seven]
 | 1,_=>simp[seven]
 | 2,_=>simp[seven]
 | 3,_=>simp[seven]
 | 4,_=>simp[seven]
 | 5,_=>simp[seven]
 | 6,_=>simp[seven]
theorem Gl{a b c d:ByteArray}(e:a.size<=n)(hb:b.size<=n)(f:c.size<=n)(hd:d.size<=n)(i:Nat):(four a b c d i).size<=n:=by
 match i with
 | 0=>exact e
 | 1=>exact hb
 | 2=>exact f
 | _+3=>exact hd
theorem D9{a b c d e f g:ByteArray}(h:a.size<=n)(hb:b.size<=n)(j:c.size<=n)(hd:d.size<=n)(k:e.size<=n)(l:f.size<=n)(m:g.size<=n)(i:Nat):(seven a b c d e f g i).size<=n:=by
 match i with
 | 0=>exact h
 | 1=>exact hb
 | 2=>exact j
 | 3=>exact hd
 | 4=>exact k
 | 5=>exact l
 | _+6=>exact m
theorem of_le(B b m lb lo n cap M:Nat)(v:Nat->ByteArray)(w:World)(h:Rd w B b m)(f:m<=100000)(n1:0<n)(n2:n<=70000)(a:lb≠b)(c:∀i,i<n->w.cell? ⟨lb,lo+i,none⟩=some (.string (v i)))(k:∀i,(v i).size<=M) :
  Calls prog 114 #[.pointer (some ⟨b,0,none⟩),.slice (some ⟨lb,lo,none⟩) n cap] w fun e w'=>∃t:ByteArray,t.size<=M/\e = .returned (.string t)/\Rd w' B b (m+1)/\lP b w w':=by
 refine(Pg B b m lb lo n cap v w h f n1 n2 a c).mono ?_;rintro e w' ⟨i,_,d,j,g⟩;exact⟨v i,k i,d,j,g⟩
theorem Cw{cap:Nat}{l:List UInt8}{base:Nat}(h:w.ownsRow base 5 1 (.slice (some ⟨g,0,none⟩) l.length cap) l.length (l.map fun x=>Value.int .u8 (x.toNat:Int))) :
  (convert 22 9 (.slice (some ⟨g,0,none⟩) l.length cap)).run prog w = .ok (.string ⟨l.toArray⟩) w:=
 a3u w _ _ _ ⟨g,0,none⟩ cap l a06 a2b a2c (fun j a=>by
  have:=h.cells (g:=g) rfl j (.int .u8 (l[j].toNat:Int)) (by simp[a]);exact this)
theorem Tryz.infoByte:(prog.info? 5).map (fun i=>(i.zero,i.size,i.bytes))=some (some (.int .u8 0),1,1):=by kernel_rfl
theorem byte_of(r:Int)(a:0<=r)(b:r<256):∃x:UInt8,(x.toNat:Int)=r:=by
 obtain⟨k,rfl⟩:=a0n a;refine⟨UInt8.ofNat k,?_⟩;have:k%256=k:=a08 (by omega);simp[this]
theorem zY{a: World}{row : Option Nat}(h : Kn b a w)(c : w.grownBy w' row)(g : ∀j, row = some j -> a.heap.size <= j)(hb : b < a.heap.size) : Kn b a w' :=
  ⟨h.1.grown c (a0L (a0w hb) h.2.2) (fun j i => a0L (a0w hb) (g j i)),
   fun k f d => (c.block k (a0h f h.2.2) (fun e => by have := g k e.symm;omega)).trans (h.2.1 k f d),
   a0L h.2.2 c.size⟩
theorem pd(B b m:Nat)(w:World)(h:Rd w B b m)(hm:m<=90000) :
  Calls prog 112 #[.pointer (some ⟨b,0,none⟩)] w fun e w'=>(∃s:ByteArray,e = .returned (.string s)/\s.size<=400)/\Rd w' B b (m+50)/\Kn b w w':=by
 obtain⟨i0,hi,W,X,Y⟩:=a0r Tryz.infoByte;have J:=h.lt;go_enter func112,ntmps112;go_wp2_with fail;refine(bJ B b m _ _ h (by omega) (by omega) (by omega)).mono ?_;rintro e w1 ⟨r,rfl,r0,r1,d,a⟩;have F:=d.lt;by_cases R:r=0
 . subst R;go_wp2;go_ret;exact⟨⟨_,rfl,by decide⟩,d.mono (by omega),a.kn⟩
 have g0:(r == 0)=false:=by simpa using R
 by_cases S:r=1
 . subst S;clear R g0;go_wp2_with fail;refine(of_le B b (m+1) w1.heap.size 0 4 4 6 _ _ (d.alloc _) (by omega) (by omega) (by omega) (a2a F) (zI w1 _ _ _ _ _) (Gl (by decide) (by decide) (by decide) (by decide))).mono ?_;rintro e w2 ⟨t0,Q,rfl,p,c⟩;go_wp2_with fail;refine(bJ B b (m+2) _ _ p (by omega) (by omega) (by omega)).mono ?_;rintro e w3 ⟨r',rfl,K,Z,v,i⟩;go_wp2_with fail;refine(oc _ _ _ (by omega) (by omega) (by omega)).mono ?_;rintro e w4 ⟨⟨t,rfl,ht⟩,rfl⟩;go_wp2;go_ret;refine⟨⟨t,rfl,?_⟩,v.mono (by omega),((a.kn.trans (fE w1 _ F)).trans c.kn).trans i.kn⟩;rw[ht];have:=a2m Q (show(1+r').toNat<=40 by omega);omega
 have g1:(r == 1)=false:=by simpa using S
 by_cases h2:r=2
 .
  subst h2;clear R S g0 g1;go_wp2_with fail;refine(bJ B b (m+1) _ _ (d.alloc _) (by omega) (by omega) (by omega)).mono ?_;rintro e w2 ⟨r',rfl,K,Z,p,c⟩;obtain⟨n0,rfl⟩:=a0n K;have H:w2.ownsRow w.heap.size 5 1 (.slice (some ⟨w1.heap.size,0,none⟩) 0 0) 0 []:=
   wE (a0Y w1 #[] 0 a.kn.2.2 (by unfold maxLen;omega) rfl) c J
  have f:=(a.kn.trans (fE w1 (.cells #[] 5) F)).trans c.kn;go_wp2_with fail
  go_loopw [3,4] (fun o n wr=>∃(l:List UInt8) (k:Nat),n = .int .i64 k/\k<=39/\l.length+k<=39/\o ≠ .slice none 0 0/\wr.ownsRow w.heap.size 5 1 o l.length (l.map fun x=>Value.int .u8 (x.toNat:Int))/\Rd wr B b (m+42-k)/\Kn b w wr) (fun _ n _=>(intOf n).toNat)
  case atStart=>exact⟨[],n0,rfl,by omega,by simp;omega,by simp,H,p.mono (by omega),f⟩
  case round=>
   obtain⟨l,k,rfl,hk,T,ad,E,z,y⟩:=hrel;have G:=z.lt;have ac:(k:Int)<=39:=by omega
   have HL:=af T;clear hk T d p a c f H;by_cases hp:(0:Int)<(k:Int)
   .
    go_wp2_with fail;refine(bJ B b (m+42-k) _ _ z (by omega) (by omega) (by omega)).mono ?_;rintro e w3 ⟨q,rfl,q0,q1,v,i⟩;obtain⟨x,rfl⟩:=byte_of q q0 q1;have D:=wE E i J;have L:∀j,u3.ownBlock=some j->w.heap.size<=j:=fun j M=>(D.lt j M).1;have U:=v.lt;have A:=y.trans i.kn;clear E z i;go_wp2_with (at_builtin;refine a0B _ rfl _ _ 22 rfl w.heap.size 5 i0 (.int .u8 0) 1 1 a06 hi W X Y rfl (by decide) _ _ _ rfl (D.alloc _) ⟨w3.heap.size,0,none⟩ 1 1 [.int .u8 (x.toNat:Int)] rfl rfl ?c1 ?c2 ?c3 ?c4 ?c5 ?_)
    case c1=>
     intro j u M
     match j,M with
     | 0,M=>simp at M;subst M;simp[Addr.add]
    case c2=>intro u hu;simp at hu;subst hu;rfl
    case c3=>have:=ae HL;unfold maxLen;omega
    case c4=>have:=ae HL;omega
    case c5=>have:=A.2.2;simp;omega
    intro v' w4 I C N;have aa:Rd w4 B b (m+42-k+1):=(v.alloc _).grown C (fun j M=>a0h J (L j M));have O:Kn b w w4:=zY (A.trans (fE w3 _ U)) C L J;have V:v' ≠ .slice none 0 0:=N;have P:w4.ownsRow w.heap.size 5 1 v' (l++[x]).length ((l++[x]).map fun x=>Value.int .u8 (x.toNat:Int)):=by simpa using I
    clear I C D v A N;go_wp2;go_roundw
    case rel=>exact⟨l++[x],k-1,by go_num,by omega,by have:=ae HL;simp;omega,V,P,aa.mono (by omega),O⟩
    case measure=>simp[intOf];omega
   .
    obtain⟨g,cap,rfl⟩:∃g cap,u3 = .slice (some ⟨g,0,none⟩) l.length cap:=by
     rcases E.2 with⟨e,_⟩|⟨g,cap,_,e,_⟩
     . exact absurd e ad
     . exact⟨g,cap,e⟩
    have ab:=Cw E;go_wp2;go_ret;exact⟨⟨_,rfl,by have:=ae HL;simp[ByteArray.size];omega⟩,z.mono (by omega),y⟩
 have g2:(r == 2)=false:=by simpa using h2
 by_cases h3:r=3
 . subst h3;clear R S h2 g0 g1 g2;go_wp2_with (go_at_call 115;refine(oc _ _ _ (by omega) (by omega) (by decide)).mono ?_;rintro e w' ⟨⟨t,rfl,ht⟩,rfl⟩);go_ret;exact⟨⟨t,rfl,by rw[ht];decide⟩,d.mono (by omega),a.kn⟩
 have g3:(r == 3)=false:=by simpa using h3
 clear R S h2 h3;go_wp2_with fail;refine(bJ B b (m+1) _ _ d (by omega) (by omega) (by omega)).mono ?_;rintro e w2 ⟨r',rfl,K,Z,p,c⟩;obtain⟨n0,rfl⟩:=a0n K;have f:=a.kn.trans c.kn;go_wp2_with fail
 go_loopw [5,6] (fun o n wr=>∃(s:ByteArray) (k:Nat),o = .string s/\n = .int .i64 k/\k<=11/\s.size+6*k<=66/\Rd wr B b (m+20-k)/\Kn b w wr) (fun _ n _=>(intOf n).toNat)
 case atStart=>exact⟨ByteArray.empty,n0,rfl,rfl,by omega,by show 0+6*n0<=66;omega,p.mono (by omega),f⟩
 case round=>
  obtain⟨s,k,rfl,rfl,hk,Q,z,y⟩:=hrel;have G:=z.lt;have ac:(k:Int)<=11:=by omega
  have an:(s.size:Int)+6*k<=66:=by omega
  have HK:=af hk;clear hk Q d p a c f hi W X Y;by_cases hp:(0:Int)<(k:Int)
  .
   go_wp2_with fail;refine(of_le B b (m+20-k) wr.heap.size 0 7 7 6 _ _ (z.alloc _) (by omega) (by omega) (by omega) (a2a G) (Bo wr _ _ _ _ _ _ _ _) (D9 (by decide) (by decide) (by decide) (by decide) (by decide) (by decide) (by decide))).mono ?_;rintro e w3 ⟨t0,ao,rfl,v,i⟩;go_wp2;go_roundw
   case rel=>exact⟨s++t0,k-1,rfl,by go_num,by omega,by rw[a0t];omega,v.mono (by omega),(y.trans (fE wr _ G)).trans i.kn⟩
   case measure=>simp[intOf];omega
  . go_wp2;go_ret;exact⟨⟨s,rfl,by omega⟩,z.mono (by omega),y⟩
theorem rY(B b m:Nat)(w:World)(h:Rd w B b m)(k:m<=80000) :
  Calls prog 75 #[.pointer (some ⟨b,0,none⟩)] w fun e w'=>(∃s:ByteArray,e = .returned (.string s)/\s.size<=400)/\Rd w' B b (m+60)/\Kn b w w':=by
 go_enter func75,ntmps75;go_wp2_with fail;refine(bJ B b m _ _ h (by omega) (by omega) (by omega)).mono ?_;rintro e w1 ⟨r,rfl,l,n,c,a⟩;by_cases g:r=0
 . subst g;go_wp2_with (go_at_call 115;refine(oc _ _ _ (by omega) (by omega) (by decide)).mono ?_;rintro e w' ⟨⟨t,rfl,j⟩,rfl⟩);go_ret;exact⟨⟨t,rfl,by rw[j];decide⟩,c.mono (by omega),a.kn⟩
 .
  have g0:(r == 0)=false:=by simpa using g
  clear g;go_wp2_with (go_at_call 112;refine(pd B b (m+1) _ c (by omega)).mono ?_;rintro e w2 ⟨⟨s,rfl,i⟩,f,d⟩);go_ret;exact⟨⟨s,rfl,i⟩,f.mono (by omega),a.kn.trans d⟩
theorem NC(l:List Int)(N d:Nat):nx l N*p2 d<=nx l (N+d):=by
 induction d with
 | zero=>simp[p2]
 | succ d ih=>
  have:nx l (N+d+1)=2*nx l (N+d)+many l (((N+d:Nat):Int)+1) l.length:=rfl;rw[jB,←a1G,←a14,this];omega
section
variable {α : Type} {f : α → List Value} {c : Nat}
theorem vT(a:∀x,(f x).length=c)(l:List α):(l.flatMap f).length=l.length*c:=by
 induction l with
 | nil=>simp
 | cons x l ih=>simp only[a0S,a0i,a,ih,a0A];rw[a1o,a2H,a2V]
theorem flat_get(a:∀x,(f x).length=c)(l:List α)(d:α)(i j:Nat)(e:i<l.length)(g:j<c):(l.flatMap f)[i*c+j]?=(f (l.getD i d))[j]?:=by
 induction l generalizing i with
 | nil=>simp at e
 | cons x l ih=>
  simp only[a0S];cases i with
  | zero=>rw[Nat.zero_mul,a0H,List.getElem?_append_left (by rw[a];exact g)];simp
  | succ i=>
   have b:i<l.length:=by simpa using e
   have e1:(i+1)*c+j=c+(i*c+j):=by rw[a1o,a2H];omega
   rw[List.getElem?_append_right (by rw[a,e1];omega),a,e1,a1M,ih i b];simp
def setMany(w:World)(g:Nat):Nat->List Value->World
 | _,[]=>w
 | o,v :: vs=>setMany (w.setCell ⟨g,o,none⟩ v) g (o+1) vs
def Ic(xs:List Value):Nat->List Value->List Value
 | _,[]=>xs
 | o,v :: vs=>Ic (xs.set o v) (o+1) vs
theorem NV(vs xs:List Value)(o:Nat)(h:o+vs.length<=xs.length):Ic xs o vs=xs.take o++vs++xs.drop (o+vs.length):=by
 induction vs generalizing xs o with
 | nil=>simp[Ic]
 | cons v vs ih=>
  simp only[a0A]at h;rw[Ic,ih _ _ (by rw[a1w];omega)];have e1:(xs.set o v).take (o+1)=xs.take o++[v]:=by
   rw[List.take_set];apply List.ext_getElem?;intro i;by_cases b:i<o
   . simp[List.getElem?_set,List.getElem?_append,List.getElem?_take,b];rw[a0e (by omega),a0d (by omega),a0d (by omega)]
   .
    by_cases a:i=o
    . subst a;simp[List.getElem?_set,List.getElem?_append,a0z];rw[a0d (by omega),a0e (by omega),show i-min i xs.length=0 by omega];rfl
    . rw[List.getElem?_eq_none (by simp;omega),List.getElem?_eq_none (by simp;omega)]
  have e2:(xs.set o v).drop (o+1+vs.length)=xs.drop (o+(vs.length+1)):=by
   rw[List.drop_set,a0d (by omega)]
   congr 1;omega
  rw[e1,e2];simp
theorem JL(a:∀x,(f x).length=c)(l:List α)(j:Nat)(x:α)(e:j<l.length):Ic (l.flatMap f) (j*c) (f x)=(l.set j x).flatMap f:=by
 have b:j*c+c<=l.length*c:=by
  have:(j+1)*c<=l.length*c:=a18 c e;rw[a1o,a2H]at this;exact this
 rw[NV _ _ _ (by rw[vT a,a];exact b)];have g:l=l.take j++l[j] :: l.drop (j+1):=by rw[List.getElem_cons_drop,a1H]
 have h:l.set j x=l.take j++x :: l.drop (j+1):=by rw[List.set_eq_take_append_cons_drop,a0d e]
 have d:(List.flatMap f (l.take j)).length=j*c:=by rw[vT a,a0z,a1X (by omega)]
 rw[h]
 conv=>lhs;rw[g]
 simp only[a2q,a0S];rw[a1p (by omega),a0o (by omega)];rw[←a0O,a2r,a24 (by simp only[a0i,d,a];omega)];simp only[a0i,d,a,a2I,a1x,a0X,a0O]
def bu(T:TypeId)(c:Nat)(f:α->List Value)(w:World)(base:Nat)(v:Value)(l:List α):Prop:=w.ownsRow base T c v l.length (l.flatMap f)
variable {T : TypeId}
theorem bu.form{w:World}{base:Nat}{v:Value}{l:List α}(h:bu T c f w base v l):∃a cap,v = .slice a l.length cap/\l.length<=cap/\cap<=maxLen:=by
 rcases h.2 with⟨e,b⟩|⟨g,cap,_,e,_,_,d,h2,_⟩
 . exact⟨none,0,by rw[e,b],by omega,a0g _⟩
 . exact⟨_,cap,e,d,h2⟩
theorem bu.formN{w:World}{base n:Nat}{v:Value}{l:List α}(b:l.length=n)(h:bu T c f w base v l):∃a cap,v = .slice a n cap/\n<=cap/\cap<=maxLen:=by
 subst b;exact h.form
theorem bu.later{w w':World}{base B:Nat}{v:Value}{l:List α}(h:bu T c f w base v l)(hb:Below B w w')(a:w.heap.size<=B):bu T c f w' base v l:=
 a1J h (row:=none) ⟨hb.os,hb.tape,hb.output,hb.size,fun k b _=>hb.block k (by omega)⟩ (by
  cases d:v.ownBlock with
  | none=>exact .inl rfl
  | some k=>exact .inr (by simp))
theorem bu.mono{w:World}{base base':Nat}{v:Value}{l:List α}(h:bu T c f w base v l)(hb:base'<=base):bu T c f w base' v l:=by
 refine⟨h.1,?_⟩;rcases h.2 with d|⟨g,cap,a,e,b,rest⟩
 . exact .inl d
 . exact .inr ⟨g,cap,a,e,a0L hb b,rest⟩
theorem bu.own{w:World}{base n:Nat}{v:Value}{l:List α}(a:l.length=n)(h:bu T c f w base v l):w.ownsRow base T c v n (l.flatMap f):=by
 subst a;exact h
theorem bu.somes{w:World}{base cap n:Nat}{a:Option Addr}{l:List α}(h:bu T c f w base (.slice a n cap) l)(i:0<l.length):∃g,a=some ⟨g,0,none⟩:=by
 rcases h.2 with⟨_,e⟩|⟨g,b,d,e,_⟩
 . omega
 . simp only[a0J]at e;exact⟨g,e.1⟩
theorem bu.below{w:World}{base cap n g:Nat}{l:List α}(h:bu T c f w base (.slice (some ⟨g,0,none⟩) n cap) l):base<=g/\g<w.heap.size:=a0E h g rfl
theorem bu.at(b:∀x,(f x).length=c){w:World}{base g cap n:Nat}{l:List α}(d:α)(k:l.length=n)(h:bu T c f w base (.slice (some ⟨g,0,none⟩) n cap) l)(i j:Nat)(a:i<n)(e:j<c) :
  w.cell? ⟨g,i*c+j,none⟩=(f (l.getD i d))[j]?/\w.frozen? ⟨g,i*c+j,none⟩=false:=by
 subst k;refine⟨?_,a2o h _⟩;rw[←flat_get b l d i j a e];refine a02 h _ ?_;have:(i+1)*c<=l.length*c:=a18 c a;rw[a1o,a2H]at this;omega
theorem Ba{w:World}{base g cap n:Nat}{xs:List Value}(vs:List Value)(o:Nat)(h:w.ownsRow base T c (.slice (some ⟨g,0,none⟩) n cap) n xs):(setMany w g o vs).ownsRow base T c (.slice (some ⟨g,0,none⟩) n cap) n (Ic xs o vs):=by
 induction vs generalizing w o xs with
 | nil=>exact h
 | cons v vs ih=>exact ih (o+1) (a10 h o v).1
theorem bu.put(a:∀x,(f x).length=c){w:World}{base g cap n:Nat}{l:List α}(d:l.length=n)(h:bu T c f w base (.slice (some ⟨g,0,none⟩) n cap) l)(j:Nat)(b:j<n)(x:α) :
  bu T c f (setMany w g (j*c) (f x)) base (.slice (some ⟨g,0,none⟩) n cap) (l.set j x):=by
 subst d;have:=Ba (f x) (j*c) h;rw[JL a l j x b]at this;show World.ownsRow _ _ _ _ _ (l.set j x).length _;rw[a1w];exact this
theorem bu.nil(w:World)(base:Nat):bu T c f w base (.slice none 0 0) []:=a00 _ _ _ _
theorem bu.snoc{x:World}{base n:Nat}{v:Value}{l:List α}{a:α}(b:l.length=n)(h:x.ownsRow base T c v (n+1) (l.flatMap f++f a)):bu T c f x base v (l++[a]):=by
 subst b;show World.ownsRow _ _ _ _ _ (l++[a]).length _;simpa using h
theorem jk(l:List α)(d:α)(k:Nat)(h:k<l.length):l.take (k+1)=l.take k++[l.getD k d]:=by
 rw[a09 h]
 congr 2
 simp[List.getD,h]
end
end Go.Proofs.YtgmfehnnebkaoaaGreatDoor
