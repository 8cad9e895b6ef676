/- Of what the proof is made: 22 texts, one behind the other. -/
import Derived.Test.YtggknepmhjfohaaGreatDoorM6
import Derived.Lib.AppendZerosOnto
import Derived.Test.YtggknepmhjfohaaGreatDoorM7
import Derived.Test.YtggknepmhjfohaaGreatDoorM5
import Derived.Laws.IdiomStrings
import Derived.Laws.OwnMore
import Derived.Deep.RegionWith
set_option maxRecDepth 100000
set_option linter.unusedSimpArgs false
set_option linter.unusedVariables false
set_option maxHeartbeats 3200000
namespace Go.Proofs.YtggknepmhjfohaaGreatDoor
open Go.Proofs.Tryz
open Go.RowKit Go.Lib
variable {P:Program}
theorem lc(z:Value)(k:Nat):Builtin.zeroCells #[z] k=(List.replicate k z).toArray:=by
 unfold Builtin.zeroCells;apply Array.ext';simp only[a2z,a1g,a1k,Nat.mul_one];simp;rw[List.map_const',List.length_range]
theorem ln(w:World)(t tn ty e:TypeId)(i:TypeInfo)(z:Value)(B kn:IntKind)(v:P.underlying t=some (.slice e))(j:P.underlying tn=some (.int kn))(q:P.info? e=some i)(A:i.zero=some z)
  (g sLen sCap:Nat) (a:Array Value) (p:w.heap[g]?=some (.cells a e (0,0))) (k:Nat) (C:0<k) (s:i.size=1) (l:z.cells=#[z]) (m:z.oneCell'=true)
  (b:sLen+k<=sCap) (d:sLen+k<=a.size) (o:(k:Int)<=9223372036854775807) (n:k*i.bytes<=281474976710656) :
  (Builtin.append_ #[t,tn] ty #[.slice (some ⟨g,0,none⟩) sLen sCap,.int B k]).run P w =
   .ok (.slice (some ⟨g,0,none⟩) (sLen+k) sCap) (w.setRow g (a.toList.take sLen++List.replicate k z++a.toList.drop (sLen+k)).toArray):=by
 have r:k≠0:=by omega
 have y:IntKind.i64.wrap (k:Int)=k:=by rw[a1x];omega
 have c:¬ (281474976710656<(k:Int)*(i.bytes:Int)):=by
  rw[←a1v];omega
 have f:¬ ((k:Int)<0):=by omega
 have h:=run_storeCells_at P g sLen e (List.replicate k z) 0 a w p (by simpa using d) (by intro u x;rw[List.eq_of_mem_replicate x];exact m);simp only[a1q,a0w]at h;simp[Builtin.append_,a1M v,a1M j,sizeOf,typeInfo,zeroValue,q,A,asInt,asIntOf,y,f,c,s,r,b,l,lc,Addr.add_lit,h]
theorem lW(w:World)(base:Nat)(t tn ty e:TypeId)(i:TypeInfo)(z:Value)(bytes:Nat)(A kn:IntKind)(G:P.underlying t=some (.slice e))(q:P.underlying tn=some (.int kn))(F:P.info? e=some i)(I:i.zero=some z)
  (K:i.size=1) (D:i.bytes=bytes) (r:z.cells=#[z]) (L:z.oneCell'=true) (v:Value) (n:Nat) (xs:List Value) (a:w.ownsRow base e 1 v n xs) (k:Nat) (B:0<k)
  (s:n+k<=maxLen) (b:(n+k)*bytes<=140737488355328) (l:base<=w.heap.size) :
  ∃v' w',(Builtin.append_ #[t,tn] ty #[v,.int A k]).run P w = .ok v' w'/\w'.ownsRow base e 1 v' (n+k) (xs++List.replicate k z)/\w.grownBy w' v.ownBlock:=by
 subst D;have y:n+k<=9223372036854775807:=by simp only[maxLen]at s;omega
 have c:(xs++List.replicate k z).length=(n+k)*1:=by rw[a0m,a.1,a0w];omega
 have o:k*i.bytes<=281474976710656:=by
  have:k*i.bytes<=(n+k)*i.bytes:=a2n _ (by omega);omega
 have grown:∀(old:Nat),old<n+k->∀(row:Option Nat),
   (w.drew.alloc (.cells (xs.toArray++Builtin.zeroCells z.cells k++Builtin.zeroCells z.cells (grownCap w (n+k) old e-(n+k))) e)).ownsRow base e 1
    (.slice (some ⟨w.heap.size,0,none⟩) (n+k) (grownCap w (n+k) old e)) (n+k) (xs++List.replicate k z) /\
   w.grownBy (w.drew.alloc (.cells (xs.toArray++Builtin.zeroCells z.cells k++Builtin.zeroCells z.cells (grownCap w (n+k) old e-(n+k))) e)) row:=by
  intro old S row;have E:=grownCap_ge w (n+k) old e;have m:grownCap w (n+k) old e<=maxLen:=grownCap_le_maxLen w (n+k) old e s;refine⟨⟨c,.inr ⟨w.heap.size,_,_,rfl,l,heap_alloc_new w.drew _,E,m,?_,?_⟩⟩,⟨rfl,rfl,rfl,by simp,fun j N _=>a1f w.drew _ j N⟩⟩
  . have:=a.1;simp only[a2f,a2z,r,lc,a0w];omega
  . rw[r,lc,lc];simp only[Array.toList_append,a0M];rw[←a0M,←c];exact List.take_left
 rcases a.2 with⟨rfl,rfl⟩|⟨g,cap,h,rfl,C,J,Q,m,M,p⟩
 . have R:xs=[]:=a2x (by simpa using a.1);subst R;have x:=run_append_grow_zeros (P:=P) w t tn ty e i z A kn G q F I none 0 0 [] (run_firstCells_none w.drew i.size 0 0 0) k B (by omega) (by omega) (by omega) o (a3w (by omega) (by simpa using b));have d:=grown 0 (by omega) (Value.ownBlock (.slice none 0 0));exact⟨_,_,x,d.1,d.2⟩
 .
  by_cases f:n+k<=cap
  .
   have x:=ln (P:=P) w t tn ty e i z A kn G q F I g n cap h J k B K r L f (by omega) (by omega) o;refine⟨_,_,x,⟨c,.inr ⟨g,cap,_,rfl,C,setRow_heap w g h _ e _ J,f,m,?_,?_⟩⟩,⟨rfl,rfl,rfl,by simp,fun k _ O=>setRow_other w g k _ (fun e=>O (by simp[Value.ownBlock,e]))⟩⟩
   . simp only[a2z,a0m,a0H,a1l,a1Q,a0w];omega
   .
    have H:h.toList.take n=xs:=by simpa using p
    rw[H,←c];exact List.take_left
  . have holds:∀j u,xs[j]?=some u->w.drew.cell? ((⟨g,0,none⟩:Addr).add j)=some u:=a.cells (g:=g) rfl;have x:=run_append_grow_zeros (P:=P) w t tn ty e i z A kn G q F I (some ⟨g,0,none⟩) n cap xs (run_firstCells_some (P:=P) w.drew i.size n ⟨g,0,none⟩ n cap xs (by rw[K];exact a.1) holds) k B (by omega) (by omega) (by omega) o (a3w (by omega) b);have d:=grown cap (by omega) (Value.ownBlock (.slice (some ⟨g,0,none⟩) n cap));exact⟨_,_,x,d.1,d.2⟩
theorem iB(w:World){ops:Array Oper}{rest:List Oper}{o:Oper}{a:Act}{Q:Exit->Act->World->Prop}(j:o.guard=none)(s x:Operand)(t tn:TypeId)
  (C:o.op = .call { callee:=.builtin .append,args:=#[s,x],argTypes:=#[t,tn] })
  (base:Nat) (e:TypeId) (i:TypeInfo) (z:Value) (bytes:Nat) (q kn:IntKind) (F:P.underlying t=some (.slice e)) (m:P.underlying tn=some (.int kn)) (B:P.info? e=some i) (H:i.zero=some z)
  (l:i.size=1) (g:i.bytes=bytes) (p:z.cells=#[z]) (u:z.oneCell'=true) (v:Value) (n:Nat) (xs:List Value) (E:a.eval s=v) (d:w.ownsRow base e 1 v n xs) (k:Nat) (G:a.eval x = .int q (k:Int)) (r:0<k)
  (f:n+k<=maxLen) (b:(n+k)*bytes<=140737488355328) (c:base<=w.heap.size)
  (h:∀v' w',w'.ownsRow base e 1 v' (n+k) (xs++List.replicate k z)->w.grownBy w' v.ownBlock->wpList P ops Q rest (a.put o.dst v') w'):wpList P ops Q (o :: rest) a w:=by
 obtain⟨v',w',D,h2,y⟩:=lW (P:=P) w base t tn o.type e i z bytes q kn F m B H l g p u v n xs d k r f b c;refine wpList_plain j fun _ A=>?_;unfold Oper.wp execOp;simp only[C,resolve,invoke,builtin,Sem.run_bind,a3x,Result.andThen_ok,List.map_toArray,a0B,a1D,E,G,D];exact A _ _ (h v' w' h2 y)
end Go.Proofs.YtggknepmhjfohaaGreatDoor
namespace Go.Proofs.YtggknepmhjfohaaGreatDoor
open Go.Proofs.Tryz
open Go.RowKit
variable {B G L b g i j k n o:Nat}{a:Option Addr}{f:Nat×Nat}{l:List Int}{m:Nat->Nat}{t t':TypeId}{v vc vl vs y:Value}{w w' w1 w2 x y':World}{xs:List Value}
theorem Tryz.infoInt:(prog.info? 3).map (fun i=>(i.zero,i.size,i.bytes))=some (some (.int .i64 0),1,8):=by kernel_rfl
theorem ci(l:List Int)(k:Nat)(h:k<l.length):l.take (k+1)=l.take k++[l.getD k 0]:=by
 rw[a1e h]
 congr 1
 simp[List.getD,h]
def bp(w:World)(a:Option Addr)(l:List Int):Prop:=
 0<l.length->∃g o,a=some ⟨g,o,none⟩/\g<w.heap.size/\∀i,i<l.length->w.cell? ⟨g,o+i,none⟩=some (.int .i64 (l.getD i 0))
theorem bp.below(h:bp w a l)(j:w.heap.size<=B)(hb:Below B w w'):bp w' a l:=by
 intro b;obtain⟨g,o,e,d,c⟩:=h b;exact⟨g,o,e,a0k d hb.size,fun i f=>by rw[←c i f];exact hb.cell (p:=⟨g,o+i,none⟩) (by show g<B;omega)⟩
theorem bp.later(h:bp w a l)(hb:Below w.heap.size w w'):bp w' a l:=h.below (a0a _) hb
def ak(w:World)(base:Nat)(v:Value)(l:List Int):Prop:=w.ownsRow base 3 1 v l.length (l.map (Value.int .i64))
theorem ak.form{base:Nat}(h:ak w base v l):∃a cap,v = .slice a l.length cap:=by
 rcases h.2 with⟨e,b⟩|⟨g,cap,_,e,_⟩
 . exact⟨none,0,by rw[e,b]⟩
 . exact⟨_,cap,e⟩
theorem ak.row{base:Nat}{cap:Nat}(h:ak w base (.slice a l.length cap) l):bp w a l:=by
 intro k;rcases h.2 with⟨e,m⟩|⟨g,c,d,e,hb,f,_⟩
 . omega
 .
  simp only[a0K]at e;obtain⟨rfl,_,rfl⟩:=e;refine⟨g,0,rfl,(Array.getElem?_eq_some_iff.1 f).1,fun i j=>?_⟩;have:=a1Y h (g:=g) rfl i (.int .i64 (l.getD i 0)) (by simp[List.getD,j]);have b:(⟨g,0,none⟩:Addr).add i=⟨g,i,none⟩:=by unfold Addr.add;split<;>simp_all
  rw[b]at this;rw[a0J];exact this
theorem ak.later{base:Nat}(h:ak w base v l)(hb:Below B w w')(e:w.heap.size<=B):ak w' base v l:=by
 refine⟨h.1,?_⟩;rcases h.2 with d|⟨g,cap,b,rfl,c,a,rest⟩
 . exact .inl d
 . refine .inr ⟨g,cap,b,rfl,c,?_,rest⟩;have f:=(Array.getElem?_eq_some_iff.1 a).1;rw[hb.block g (by omega)];exact a
theorem ak.lit(w:World)(base:Nat)(hb:base<=w.heap.size):ak (w.alloc (.cells #[] 3)) base (.slice (some ⟨w.heap.size,0,none⟩) 0 0) []:=
 a04 w #[] 0 hb (by unfold maxLen;omega) rfl
theorem ak.nil(w:World)(base:Nat):ak w base (.slice none 0 0) []:=a05 _ _ _ _
theorem mw{base:Nat}{a:Int}(h:x.ownsRow base 3 1 v (l.length+1) (l.map (Value.int .i64)++[.int .i64 a])):ak x base v (l++[a]):=by
 unfold ak;simpa using h
theorem ak.mono{base base':Nat}(h:ak w base v l)(hb:base'<=base):ak w base' v l:=by
 refine⟨h.1,?_⟩;rcases h.2 with c|⟨g,cap,a,rfl,b,rest⟩
 . exact .inl c
 . exact .inr ⟨g,cap,a,rfl,by omega,rest⟩
theorem aG{y:World}{o:Obj}{e:TypeId}{size base:Nat}(b:(y.alloc o).grownBy y' v.ownBlock)(d:y.ownsRow base e size v n xs)(a:B<=base)(f:B<=y.heap.size)(hb:Below B x y):Below B x y':=
 (hb.alloc f _).grown b (by simp;omega) (fun j c=>a0z a (a0C (d.alloc o) j c).1)
theorem ak.rowN{base:Nat}{cap:Nat}(b:l.length=n)(h:ak w base (.slice a n cap) l):bp w a l:=by
 subst b;exact h.row
theorem ak.formN{base:Nat}(b:l.length=n)(h:ak w base v l):∃a cap,v = .slice a n cap:=by
 subst b;exact h.form
theorem ak.own{base:Nat}(a:l.length=n)(h:ak w base v l):w.ownsRow base 3 1 v n (l.map (Value.int .i64)):=by
 subst a;exact h
theorem de{base:Nat}{a:Int}(b:l.length=n)(h:x.ownsRow base 3 1 v (n+1) (l.map (Value.int .i64)++[.int .i64 a])):ak x base v (l++[a]):=by
 subst b;exact mw h
theorem ak.put{base cap:Nat}(a:l.length=n)(h:ak w base (.slice (some ⟨g,0,none⟩) n cap) l)(x:Int) :
  ak (w.setCell ⟨g,j,none⟩ (.int .i64 x)) base (.slice (some ⟨g,0,none⟩) n cap) (l.set j x):=by
 subst a;have:=a10 h j (.int .i64 x);show World.ownsRow _ _ _ _ _ (l.set j x).length ((l.set j x).map (Value.int .i64));rw[a1E];have e:(l.set j x).map (Value.int .i64)=(l.map (Value.int .i64)).set j (.int .i64 x):=by simp[List.map_set]
 rw[e];exact this.1
theorem ak.at{base cap:Nat}(b:l.length=n)(h:ak w base (.slice (some ⟨g,0,none⟩) n cap) l)(a:j<n) :
  w.cell? ⟨g,j,none⟩=some (.int .i64 (l.getD j 0))/\w.frozen? ⟨g,j,none⟩=false/\base<=g/\g<w.heap.size:=by
 subst b;refine⟨?_,a2A h j,a0C h g rfl⟩;rw[a07 h j (by omega)];simp[a,List.getD]
theorem ak.somes{base cap:Nat}(h:ak w base (.slice a n cap) l)(d:0<l.length):∃g,a=some ⟨g,0,none⟩:=by
 rcases h.2 with⟨_,e⟩|⟨g,b,c,e,_⟩
 . omega
 . simp only[a0K]at e;exact⟨g,e.1⟩
theorem ak.below{base cap:Nat}(h:ak w base (.slice (some ⟨g,0,none⟩) n cap) l):base<=g/\g<w.heap.size:=a0C h g rfl
def Touch(a:Option Addr)(w w':World):Prop:=w'.heap.size=w.heap.size/\∀j,(∀g,a=some ⟨g,0,none⟩->j≠g)->w'.heap[j]?=w.heap[j]?
theorem Touch.refl(a:Option Addr)(w:World):Touch a w w:=⟨rfl,fun _ _=>rfl⟩
theorem Touch.set(h:Touch a w w')(c:a=some ⟨g,0,none⟩)(u:Value):Touch a w (w'.setCell ⟨g,o,none⟩ u):=
 ⟨by simpa using h.1,fun j b=>(a0L w' ⟨g,o,none⟩ u j (b g c)).trans (h.2 j b)⟩
theorem ak.touch{base:Nat}(h:ak w base v l)(j:Touch a w w')(f:∀g,a=some ⟨g,0,none⟩->g<base):ak w' base v l:=by
 refine⟨h.1,?_⟩;rcases h.2 with i|⟨g,cap,b,rfl,c,d,rest⟩
 . exact .inl i
 . refine .inr ⟨g,cap,b,rfl,c,?_,rest⟩;rw[j.2 g (fun g' e=>by have:=f g' e;omega)];exact d
theorem tW{d e e1 e2 s1 s2 n1 n2:Nat}{v1 v2:Value}{x1 x2:List Value}(h:w.ownsRow d e1 s1 v1 n1 x1)(h2:w.ownsRow e e2 s2 v2 n2 x2)(i:e1≠e2):v1.ownBlock=none∨v1.ownBlock≠v2.ownBlock:=by
 rcases h.2 with⟨rfl,_⟩|⟨g,cap,f,rfl,_,j,_⟩
 . exact .inl rfl
 .
  refine .inr ?_;rcases h2.2 with⟨rfl,_⟩|⟨g',b,c,rfl,_,a,_⟩
  . simp[Value.ownBlock]
  . simp only[Value.ownBlock,ne_eq,a0i];rintro rfl;rw[j]at a;simp only[a0i,a3y]at a;exact i a.2.1
theorem ax(h:B<=w.heap.size)(o:Obj):B<=(w.alloc o).heap.size:=by simp;omega
theorem bD(W:World)(g:Nat)(b:W.heap.size=g)(x:Value)(t:TypeId):∀(j:Nat) (u:Value),[x][j]?=some u->(W.alloc (.cells #[x] t)).cell? ((⟨g,0,none⟩:Addr).add j)=some u:=by
 subst b;intro j u a
 match j,a with
 | 0,a=>simp at a;subst a;simp[Addr.add]
theorem en(x:Int):∀u∈[Value.int .i64 x],u.oneCell'=true:=by
 intro u a;simp at a;subst a;rfl
theorem cZ{base:Nat}(h:w1.ownsRow base 3 1 (.slice (some ⟨g,0,none⟩) n n) n (madeCells (Value.int .i64 0).cells (n*1)).toList):ak w1 base (.slice (some ⟨g,0,none⟩) n n) (List.replicate n 0):=by
 have e:(madeCells (Value.int .i64 0).cells (n*1)).toList=(List.replicate n (0:Int)).map (Value.int .i64):=by
  apply a2g
  . simp[madeCells]
  . intro i a h2;simp[madeCells,Value.cells,a1k]
 show World.ownsRow _ _ _ _ _ (List.replicate n (0:Int)).length _;rw[a0w,←e];exact h
theorem ak.setOther{base g' c:Nat}(h:ak w base (.slice (some ⟨g,0,none⟩) n c) l)(i:g'≠g)(u:Value):ak (w.setCell ⟨g',o,none⟩ u) base (.slice (some ⟨g,0,none⟩) n c) l:=by
 refine⟨h.1,?_⟩;rcases h.2 with f|⟨g1,cap,a,e,b,d,rest⟩
 . exact .inl f
 . refine .inr ⟨g1,cap,a,e,b,?_,rest⟩;simp only[a0K,a0i,a0A,a0V]at e;rw[a0L w ⟨g',o,none⟩ u g1 (by show g1≠g';omega)];exact d
theorem ak.under{base c:Nat}(h:ak w base (.slice (some ⟨g,0,none⟩) n c) l)(hb:Below B w w')(i:g<B):ak w' base (.slice (some ⟨g,0,none⟩) n c) l:=by
 refine⟨h.1,?_⟩;rcases h.2 with f|⟨g1,cap,a,e,b,d,rest⟩
 . exact .inl f
 . refine .inr ⟨g1,cap,a,e,b,?_,rest⟩;simp only[a0K,a0i,a0A,a0V]at e;rw[hb.block g1 (by omega)];exact d
theorem ak.setUnder{base:Nat}(h:ak w base v l)(hb:b<base)(u:Value):ak (w.setCell ⟨b,o,none⟩ u) base v l:=
 a2Y h (a:=⟨b,o,none⟩) hb u
def da(l:List UInt8):List Value:=l.map fun x=>Value.int .u8 (x.toNat:Int)
def aO(w:World)(base:Nat)(v:Value)(l:List UInt8):Prop:=w.ownsRow base 5 1 v l.length (da l)
theorem aO.form{base:Nat}{l:List UInt8}(h:aO w base v l):∃a cap,v = .slice a l.length cap:=by
 rcases h.2 with⟨e,b⟩|⟨g,cap,_,e,_⟩
 . exact⟨none,0,by rw[e,b]⟩
 . exact⟨_,cap,e⟩
theorem aO.formN{base:Nat}{l:List UInt8}(b:l.length=n)(h:aO w base v l):∃a cap,v = .slice a n cap:=by
 subst b;exact h.form
theorem aO.own{base:Nat}{l:List UInt8}(a:l.length=n)(h:aO w base v l):w.ownsRow base 5 1 v n (da l):=by
 subst a;exact h
theorem aO.later{base:Nat}{l:List UInt8}(h:aO w base v l)(hb:Below B w w')(a:w.heap.size<=B):aO w' base v l:=
 a12 h (row:=none) ⟨hb.os,hb.tape,hb.output,hb.size,fun k b _=>hb.block k (by omega)⟩ (by
  cases c:v.ownBlock with
  | none=>exact .inl rfl
  | some k=>exact .inr (by simp))
theorem aO.mono{base base':Nat}{l:List UInt8}(h:aO w base v l)(hb:base'<=base):aO w base' v l:=by
 refine⟨h.1,?_⟩;rcases h.2 with c|⟨g,cap,a,e,b,rest⟩
 . exact .inl c
 . exact .inr ⟨g,cap,a,e,a0z hb b,rest⟩
theorem aO.somes{base cap:Nat}{l:List UInt8}(h:aO w base (.slice a n cap) l)(d:0<l.length):∃g,a=some ⟨g,0,none⟩:=by
 rcases h.2 with⟨_,e⟩|⟨g,b,c,e,_⟩
 . omega
 . simp only[a0K]at e;exact⟨g,e.1⟩
theorem aO.at{base cap:Nat}{l:List UInt8}(b:l.length=n)(h:aO w base (.slice (some ⟨g,0,none⟩) n cap) l)(a:j<n) :
  w.cell? ⟨g,j,none⟩=some (.int .u8 ((l.getD j 0).toNat:Int))/\base<=g/\g<w.heap.size:=by
 subst b;refine⟨?_,a0C h g rfl⟩;rw[a07 h j (by omega)];simp[da,a,List.getD]
theorem aO.nil(w:World)(base:Nat):aO w base (.slice none 0 0) []:=a05 _ _ _ _
theorem aO.lit(w:World)(base:Nat)(hb:base<=w.heap.size):aO (w.alloc (.cells #[] 5)) base (.slice (some ⟨w.heap.size,0,none⟩) 0 0) []:=a04 w #[] 0 hb (by unfold maxLen;omega) rfl
theorem cm{base:Nat}{l:List UInt8}{b:UInt8}(a:l.length=n)(h:x.ownsRow base 5 1 v (n+1) (da l++[.int .u8 (b.toNat:Int)])):aO x base v (l++[b]):=by
 subst a;show World.ownsRow _ _ _ _ _ (l++[b]).length _;simpa[da]using h
theorem Tryz.infoU8:(prog.info? 5).map (fun i=>(i.zero,i.size,i.bytes))=some (some (.int .u8 0),1,1):=by kernel_rfl
theorem one_byte(x:Int):∀u∈[Value.int .u8 x],u.oneCell'=true:=by
 intro u a;simp at a;subst a;rfl
theorem aO.text{base:Nat}{l:List UInt8}(h:aO w base v l) :
  (convert 22 9 v).run prog w = .ok (.string ⟨l.toArray⟩) w:=by
 rcases h.2 with⟨e,b⟩|⟨g,cap,a,e,_⟩
 . have d:l=[]:=a2x b;subst d;rw[e];rw[run_convert_bytes_string w _ _ _ none 0 0 a0O a13 a14];rfl
 .
  rw[e];exact a3z w _ _ _ ⟨g,0,none⟩ cap l a0O a13 a14 (fun j c=>by
   have:=a1Y h (g:=g) (by rw[e];rfl) j (.int .u8 (l[j].toNat:Int)) (by simp[da,c]);exact this)
def mY(w:World)(a:Option Addr)(l:List (Int×Int)):Prop:=
 0<l.length->∃g o,a=some ⟨g,o,none⟩/\g<w.heap.size/\∀i,i<l.length->w.cell? ⟨g,o+i*2,none⟩=some (.int .i64 (l.getD i (0,0)).1)/\w.cell? ⟨g,o+i*2+1,none⟩=some (.int .i64 (l.getD i (0,0)).2)
theorem mY.later{l:List (Int×Int)}(h:mY w a l)(hb:Below w.heap.size w w'):mY w' a l:=by
 intro f;obtain⟨g,o,e,b,c⟩:=h f;refine⟨g,o,e,a0k b hb.size,fun i d=>⟨?_,?_⟩⟩
 . exact(hb.cell (p:=⟨g,o+i*2,none⟩) b).trans (c i d).1
 . exact(hb.cell (p:=⟨g,o+i*2+1,none⟩) b).trans (c i d).2
def aS:List (Int×Int)->List Value
 | []=>[]
 | p :: l=>.int .i64 p.1 :: .int .i64 p.2 :: aS l
theorem kN(l:List (Int×Int)):(aS l).length=l.length*2:=by
 induction l with
 | nil=>rfl
 | cons p l ih=>simp only[aS,a0E,ih];omega
theorem d9(l m:List (Int×Int)):aS (l++m)=aS l++aS m:=by
 induction l with
 | nil=>rfl
 | cons p l ih=>simp[aS,ih]
theorem BS(l:List (Int×Int))(i:Nat)(h:i<l.length):(aS l)[i*2]?=some (.int .i64 (l.getD i (0,0)).1)/\(aS l)[i*2+1]?=some (.int .i64 (l.getD i (0,0)).2):=by
 induction l generalizing i with
 | nil=>simp at h
 | cons p l ih=>
  cases i with
  | zero=>simp[aS]
  | succ i=>
   have:=ih i (by simpa using h);rw[show(i+1)*2=i*2+1+1 by omega];simpa[aS]using this
def Pcs(w:World)(base:Nat)(v:Value)(l:List (Int×Int)):Prop:=w.ownsRow base 82 2 v l.length (aS l)
theorem Pcs.form{base:Nat}{l:List (Int×Int)}(h:Pcs w base v l):∃a cap,v = .slice a l.length cap:=by
 rcases h.2 with⟨e,b⟩|⟨g,cap,_,e,_⟩
 . exact⟨none,0,by rw[e,b]⟩
 . exact⟨_,cap,e⟩
theorem Pcs.row{base:Nat}{cap:Nat}{l:List (Int×Int)}(h:Pcs w base (.slice a l.length cap) l):mY w a l:=by
 intro k;rcases h.2 with⟨_,m⟩|⟨g,b,d,e,hb,f,n⟩
 . omega
 . simp only[a0K]at e;obtain⟨rfl,_,rfl⟩:=e;refine⟨g,0,rfl,(Array.getElem?_eq_some_iff.1 f).1,fun i j=>?_⟩;have c:=BS l i j;have c1:=a07 h (i*2) (by omega);have c2:=a07 h (i*2+1) (by omega);rw[a0J];exact⟨c1.trans c.1,c2.trans c.2⟩
theorem Pcs.later{base:Nat}{l:List (Int×Int)}(h:Pcs w base v l)(hb:Below B w w')(a:w.heap.size<=B):Pcs w' base v l:=
 a12 h (row:=none) ⟨hb.os,hb.tape,hb.output,hb.size,fun k b _=>hb.block k (by omega)⟩ (by
  cases c:v.ownBlock with
  | none=>exact .inl rfl
  | some k=>exact .inr (by simp))
theorem Tryz.infoPiece:(prog.info? 82).map (fun i=>(i.zero,i.size,i.bytes))=some (some (.agg #[.int .i64 0,.int .i64 0]),2,16):=by kernel_rfl
theorem Pcs.news{base cap:Nat}{l:List (Int×Int)}(h:Pcs w base (.slice (some ⟨g,0,none⟩) l.length cap) l):∀j u,(aS l)[j]?=some u->w.cell? ((⟨g,0,none⟩:Addr).add j)=some u:=
 a1Y h rfl
theorem gG(l:List (Int×Int)):∀u∈aS l,u.oneCell'=true:=by
 induction l with
 | nil=>intro u a;simp[aS]at a
 | cons p l ih=>
  intro u a;simp only[aS,a08]at a;rcases a with rfl|rfl|a
  . rfl
  . rfl
  . exact ih u a
theorem lS{base:Nat}{l:List (Int×Int)}{a b:Int}(h:x.ownsRow base 82 2 v (l.length+1) (aS l++[.int .i64 a,.int .i64 b])):Pcs x base v (l++[(a,b)]):=by
 show World.ownsRow _ _ _ _ _ (l++[(a,b)]).length _;rw[d9];simpa[aS]using h
theorem Fi{base:Nat}{l:List (Int×Int)}{a b:Int}(c:l.length=n)(h:x.ownsRow base 82 2 v (n+1) (aS l++[.int .i64 a,.int .i64 b])):Pcs x base v (l++[(a,b)]):=by
 subst c;exact lS h
theorem Pcs.formN{base:Nat}{l:List (Int×Int)}(b:l.length=n)(h:Pcs w base v l):∃a cap,v = .slice a n cap:=by
 subst b;exact h.form
theorem Pcs.own{base:Nat}{l:List (Int×Int)}(a:l.length=n)(h:Pcs w base v l):w.ownsRow base 82 2 v n (aS l):=by
 subst a;exact h
theorem Pcs.rowN{base:Nat}{cap:Nat}{l:List (Int×Int)}(b:l.length=n)(h:Pcs w base (.slice a n cap) l):mY w a l:=by
 subst b;exact h.row
theorem Pcs.newsN{base cap:Nat}{l:List (Int×Int)}(a:l.length=n)(h:Pcs w base (.slice (some ⟨g,0,none⟩) n cap) l):∀j u,(aS l)[j]?=some u->w.cell? ((⟨g,0,none⟩:Addr).add j)=some u:=by
 subst a;exact h.news
theorem rC(w:World)(x y:Value)(t:TypeId):∀(j:Nat) (u:Value),[x,y][j]?=some u->(w.alloc (.cells #[x,y] t)).cell? ((⟨w.heap.size,0,none⟩:Addr).add j)=some u:=by
 intro j u a
 match j,a with
 | 0,a=>simp at a;subst a;simp[Addr.add]
 | 1,a=>simp at a;subst a;simp[Addr.add]
theorem rB(x y:Int):∀u∈[Value.int .i64 x,Value.int .i64 y],u.oneCell'=true:=by
 intro u a;simp at a;rcases a with rfl|rfl<;>rfl
open Corb
def aX(l:List (Int×Int)):Bool:=l.all (fun p=>pOk p.1 p.2)
theorem Am(l:List (Int×Int))(k:Nat)(h:k<l.length):aX (l.take (k+1))=(aX (l.take k)&&pOk (l.getD k (0,0)).1 (l.getD k (0,0)).2):=by
 rw[a1e h,aX,a1R]
 congr 1
 simp[List.getD,h]
theorem ub{l:List (Int×Int)}(h:aX (l.take k)=false):aX l=false:=by
 rw[←a2T]at h ⊢;intro h2;apply h;simp only[aX,a1m]at h2 ⊢;intro x a;exact h2 x (a15 a)
def bT(l:List (Int×Int)):Int:=(l.map (·.2)).sum
def lOk(l:List (Int×Int)):Bool:=aX l&&decide (l.length<=4000)
def ox(l:List (Int×Int)):Int:=if lOk l=true then bT l else -1
theorem uT{l:List (Int×Int)}(h:lOk l=true):ox l=bT l:=a0d h
theorem s9{l:List (Int×Int)}(h:lOk l=false):ox l = -1:=a0e (by simp[h])
theorem I7(l:List (Int×Int))(k:Nat)(h:k<l.length):bT (l.take (k+1))=bT (l.take k)+(l.getD k (0,0)).2:=by
 rw[a1e h,bT,a0I,List.sum_append];simp[bT,List.getD,h]
theorem Cj{l:List (Int×Int)}(h:aX l=true):0<=bT l/\bT l<=16*(l.length:Int):=by
 induction l with
 | nil=>simp[bT]
 | cons p l ih=>
  simp only[aX,a1S,a0l]at h;have a:=aP.1 h.1;have h2:=ih h.2;simp only[bT,a0B,a0P,a0E]at h2 ⊢;omega
theorem DO{l:List (Int×Int)}(h:aX l=true)(k:Nat)(a:k<l.length):pOk (l.getD k (0,0)).1 (l.getD k (0,0)).2=true:=by
 simp only[aX,a1m]at h;have e:l.getD k (0,0)=l[k]:=by simp[List.getD,a]
 rw[e];exact h _ (a2r a)
theorem lh{l:List (Int×Int)}(h:aX l=true)(k:Nat):aX (l.take k)=true:=by
 simp only[aX,a1m]at h ⊢;exact fun x a=>h x (a15 a)
theorem gz(a:Option Addr)(cap:Nat)(l:List (Int×Int))(w:World)(h:mY w a l)(D:l.length<=1000000000) :
  CD 54 #[.slice a l.length cap] w (.int .i64 (ox l)):=by
 by_cases A:(l.length:Int)<=4000
 .
  go_enter func54,ntmps54;go_wp2_with fail
  go_loopw [3,5,11] (fun n _ i wr=>∃k:Nat,k<=l.length/\i = .int .i64 k/\n = .int .i64 (bT (l.take k))/\aX (l.take k)=true/\Below w.heap.size w wr) (fun _ _ i _=>l.length-(intOf i).toNat)
  case atStart=>exact⟨0,a0g _,rfl,rfl,rfl,a0c _ _⟩
  case round=>
   obtain⟨k,C,rfl,rfl,c,b⟩:=hrel;obtain⟨s0,s1⟩:=Cj c;have s2:((l.take k).length:Int)<=4000:=by simp;omega
   have s3:bT (l.take k)<=64000:=by omega
   by_cases j:k<l.length
   .
    obtain⟨g,o,rfl,B,r⟩:=(h.later b) (by omega);obtain⟨c0,c1⟩:=r k j;have v:=af (I7 l k j);have q:=af (Am l k j);have f:=af c;clear r h c s1 s2;generalize (l.getD k (0,0)).1=x at *
    generalize (l.getD k (0,0)).2=y at *
    cases m:pOk x y
    .
     have t:Hid (ox l = -1):=s9 (by
      have:aX l=false:=ub (k:=k+1) (by rw[ae q,m];simp);simp[lOk,this])
     generalize bT (l.take k)=S at *
     go_wp2_with (go_at_call 76;refine(jr _ _ _).mono ?_;rintro e w1 ⟨rfl,d⟩);go_ret;exact⟨aE (ae t).symm,(b.alloc b.size _).trans (d.mono (by have:=b.size;simp;omega))⟩
    .
     obtain⟨⟨y0,y1⟩,_⟩:=aP.1 m;generalize bT (l.take k)=S at *
     go_wp2_with (go_at_call 76;refine(jr _ _ _).mono ?_;rintro e w1 ⟨rfl,d⟩;have z:w1.cell? ⟨wr.heap.size,1,none⟩=some (.int .i64 y):=(d.cell (p:=⟨wr.heap.size,1,none⟩) (by simp)).trans (by simp));go_roundw
     case rel=>exact⟨k+1,by omega,by go_num,by rw[ae v],by rw[ae q,ae f,m];rfl,(b.alloc b.size _).trans (d.mono (by have:=b.size;simp;omega))⟩
     case measure=>simp[intOf];omega
   .
    have s:Hid (ox l=bT (l.take k)):=by
     rw[a0F (by omega)]at c ⊢;exact uT (by simp[lOk,c];omega)
    clear h c;go_wp2;go_ret;exact⟨aE (ae s).symm,b⟩
 . have u:Hid (ox l = -1):=s9 (by simp[lOk];omega);go_enter func54,ntmps54;go_wp2;go_ret;exact⟨aE (ae u).symm,a0c _ _⟩
def bj(t:TypeId)(w w':World):Prop:=∀(k:Nat) (c:Array Value) (f:Nat×Nat),w.heap[k]?=some (Obj.cells c t f)->w'.heap[k]?=some (Obj.cells c t f)
theorem bj.refl(t:TypeId)(w:World):bj t w w:=fun _ _ _ h=>h
theorem bj.trans(h:bj t w w1)(k:bj t w1 w2):bj t w w2:=fun j c f a=>k j c f (h j c f a)
theorem dn{o:Obj}(h:w.heap[k]?=some o):k<w.heap.size:=(Array.getElem?_eq_some_iff.1 h).1
theorem bj.below(h:Below w.heap.size w w'):bj t w w':=fun j _ _ a=>(h.block j (dn a)).trans a
theorem bj.alloc(h:bj t w w')(o:Obj):bj t w (w'.alloc o):=fun j c f a=>(a1f w' o j (dn (h j c f a))).trans (h j c f a)
theorem bj.drew(h:bj t w w'):bj t w w'.drew:=h
theorem bj.set{c:Array Value}(h:bj t w w')(e:w'.heap[g]?=some (.cells c t' f))(b:t≠t')(u:Value):bj t w (w'.setCell ⟨g,o,none⟩ u):=by
 intro j d f' i;have a:=h j d f' i;rw[a0L w' ⟨g,o,none⟩ u j (by
  show j≠g;rintro rfl;rw[e]at a;simp only[a0i,a3y]at a;exact b a.2.1.symm)]
 exact a
theorem bj.own{base size:Nat}(h:bj t w w')(d:w.ownsRow base t size v n xs):w'.ownsRow base t size v n xs:=by
 refine⟨d.1,?_⟩;rcases d.2 with e|⟨g,cap,a,rfl,b,c,rest⟩
 . exact .inl e
 . exact .inr ⟨g,cap,a,rfl,b,h g _ _ c,rest⟩
theorem E6{base size cap:Nat}{e:TypeId}{a:Addr}(h:w.ownsRow base e size (.slice (some a) n cap) n xs)(i:a=⟨g,0,none⟩):∃c,w.heap[g]?=some (.cells c e):=by
 subst i;rcases h.2 with⟨j,_⟩|⟨g',d,f,e',_,b,_⟩
 . cases j
 . simp only[a0K,a0i,a0A,a0V]at e';obtain⟨rfl,_,_⟩:=e';exact⟨_,b⟩
theorem bj.touch{c:Array Value}(d:w.heap[g]?=some (.cells c t' f))(b:t≠t')(h:Touch (some ⟨g,0,none⟩) w w'):bj t w w':=by
 intro j i f' a;rw[h.2 j (fun g' e=>by
  simp only[a0i,a0A,a0V]at e;subst e;rintro rfl;rw[d]at a;simp only[a0i,a3y]at a;exact b a.2.1.symm)]
 exact a
theorem bj.grown{base size:Nat}(h:bj t w w1)(m:w1.ownsRow base t' size v n xs)(d:t≠t')(k:w1.grownBy w2 v.ownBlock):bj t w w2:=by
 intro j c f l;have a:=h j c f l;rw[k.block j (dn a) (by
  intro e;rcases m.2 with⟨rfl,_⟩|⟨g,cap,i,rfl,_,b,_⟩
  . cases e
  . simp only[Value.ownBlock,a0i]at e;subst e;rw[b]at a;simp only[a0i,a3y]at a;exact d a.2.1.symm)]
 exact a
theorem om{x z:Value}(h:w.heap[b]?=some (Obj.cells #[x,y,z] t)):w.cell? ⟨b,0,none⟩=some x/\w.cell? ⟨b,1,none⟩=some y/\w.cell? ⟨b,2,none⟩=some z/\b<w.heap.size:=
 ⟨by simp[World.cell?,h],by simp[World.cell?,h],by simp[World.cell?,h],(Array.getElem?_eq_some_iff.1 h).1⟩
theorem df{x:Value}(h:w.heap[b]?=some (Obj.cells #[x,y] t)):w.cell? ⟨b,0,none⟩=some x/\w.cell? ⟨b,1,none⟩=some y/\b<w.heap.size:=
 ⟨by simp[World.cell?,h],by simp[World.cell?,h],(Array.getElem?_eq_some_iff.1 h).1⟩
theorem alloc_at(w:World)(o:Obj):(w.alloc o).heap[w.heap.size]?=some o:=Array.getElem?_push_size
def krN(b:Int):Nat:=if 0<b then p2 (15-b).toNat else 0
def kr(l:List Int):Nat:=(l.map krN).sum
def us(l:List Int):Nat:=(l.map (fun b=>if 0<b then 1 else 0)).sum
def inL(l:List Int):Bool:=l.all (fun b=>inB b 0 15)
def kX(l:List Int):Bool:=decide (kr l=32768) || (decide (us l=1)&&decide (kr l=16384))
def au(l:List Int):Bool:=inL l&&decide (l.length<=300)&&kX l
theorem wh(l:List Int)(k:Nat)(h:k<l.length):kr (l.take (k+1))=kr (l.take k)+krN (l.getD k 0):=by
 rw[ci l k h];simp[kr]
theorem oW(l:List Int)(k:Nat)(h:k<l.length):us (l.take (k+1))=us (l.take k)+(if 0<l.getD k 0 then 1 else 0):=by
 rw[ci l k h];simp[us]
theorem ym(l:List Int)(k:Nat)(h:k<l.length):inL (l.take (k+1))=(inL (l.take k)&&inB (l.getD k 0) 0 15):=by
 rw[ci l k h];simp[inL]
theorem Bh(b:Int):krN b<=32768:=by
 unfold krN
 split
 . have h2:2 ^ (15-b).toNat<=2 ^ 15:=a0Q (by omega) (by omega);have a:p2 (15-b).toNat=2 ^ (15-b).toNat:=rfl;omega
 . omega
theorem La(l:List Int):kr l<=32768*l.length:=by
 induction l with
 | nil=>simp[kr]
 | cons b l ih=>
  have:=Bh b;simp only[kr,a0B,a0P,a0E]at ih ⊢;omega
theorem qS(l:List Int):us l<=l.length:=by
 induction l with
 | nil=>simp[us]
 | cons b l ih=>
  simp only[us,a0B,a0P,a0E]at ih ⊢
  split<;>omega
theorem wg(h:k<l.length)(a:inB (l.getD k 0) 0 15=false):inL l=false:=by
 rcases hb:inL l with _|_
 . rfl
 . have:=a1m.1 hb (l.getD k 0) (by simp[List.getD,h]);rw[a]at this;exact absurd this (by simp)
theorem sL(a:Option Addr)(cap n:Nat)(l:List Int)(w:World)(v:l.length=n)(h:bp w a l)(s:n<=1048576) :
  Calls prog 179 #[.slice a n cap] w fun e w'=>e = .returned (.int .i64 (us l:Nat))/\w'=w:=by
 subst v;have t:(l.length:Int)<=1048576:=by omega
 clear s;go_enter func179,ntmps179;go_wp2_with fail
 go_loop [3,4] (fun n i=>∃k:Nat,k<=l.length/\i = .int .i64 k/\n = .int .i64 (us (l.take k):Nat)) (fun _ i=>l.length-(intOf i).toNat)
 case atStart=>exact⟨0,a0g _,rfl,rfl⟩
 case round=>
  obtain⟨k,r,rfl,rfl⟩:=hrel;by_cases c:k<l.length
  .
   obtain⟨g,o,rfl,x,m⟩:=h (by omega);have c0:=m k c;have d:=af (oW l k c);have j:=qS (l.take k);have p:(us (l.take k):Int)<=1048576:=by
    have:(l.take k).length<=l.length:=by simp;omega
    omega
   clear m r h j;generalize l.getD k 0=y at *
   generalize us (l.take k)=u at *
   by_cases q:0<y
   .
    have b:Hid (us (l.take (k+1))=u+1):=by have:=ae d;rw[a0d q]at this;exact this
    go_wp2
    go_round
    case rel=>exact⟨k+1,by omega,by go_num,by rw[ae b];go_num⟩
    case measure=>simp[intOf];omega
   .
    have b:Hid (us (l.take (k+1))=u):=by have:=ae d;rw[a0e q]at this;exact this
    go_wp2
    go_round
    case rel=>exact⟨k+1,by omega,by go_num,by rw[ae b]⟩
    case measure=>simp[intOf];omega
  . have f:Hid (l.take k=l):=a0F (by omega);clear h;go_wp2;go_ret;exact⟨aE (by rw[ae f]),rfl⟩
theorem mz(h:inL l=false∨300<l.length):au l=false:=by
 unfold au;rcases h with h|h
 . simp[h]
 . rw[a0j (by omega)];simp
theorem sS(h:inL l=true)(a:l.length<=300):au l=kX l:=by
 simp[au,h,a]
theorem iZ(a:Option Addr)(cap n:Nat)(l:List Int)(w:World)(G:l.length=n)(h:bp w a l)(M:n<=1048576) :
  Calls prog 192 #[.slice a n cap] w fun e w'=>e = .returned (.bool (au l))/\w'=w:=by
 subst G;have Q:(l.length:Int)<=1048576:=by omega
 have I:=af M;clear M;go_enter func192,ntmps192;go_wp2_with fail
 go_loopw [3,4] (fun n i wr=>∃k:Nat,k<=l.length/\i = .int .i64 k/\n = .int .i64 (kr (l.take k):Nat)/\inL (l.take k)=true/\wr=w) (fun _ i _=>l.length-(intOf i).toNat)
 case atStart=>exact⟨0,a0g _,rfl,rfl,rfl,rfl⟩
 case round=>
  obtain⟨k,P,rfl,rfl,d,rfl⟩:=hrel;have r:=af d;have E:=La (l.take k);have F:(l.take k).length<=l.length:=by simp;omega
  have D:(kr (l.take k):Int)<=34359738368:=by have:=ae I;omega
  clear d E F;by_cases j:k<l.length
  .
   obtain⟨g,o,rfl,R,J⟩:=h (by omega);have c0:=J k j;have B:=af (wh l k j);have hit:=af (ym l k j);have A:=af (fun G=>wg j G);clear J P h;generalize l.getD k 0=y at *
   generalize kr (l.take k)=u at *
   cases t:inB y 0 15
   . have m:=af (mz (a0o (ae A t)));go_wp2_with fail;refine(aF _ _ _ _).mono ?_;rintro e x1 ⟨rfl,rfl⟩;rw[t];go_wp2;go_ret;exact⟨am (ae m).symm,rfl⟩
   .
    obtain⟨y0,y1⟩:=aC.1 t;have p:Hid (inL (l.take (k+1))=true):=by show inL (l.take (k+1))=true;rw[ae hit,ae r,t];rfl
    by_cases N:0<y
    .
     have f:Hid (krN y=p2 (15-y).toNat):=a0d N;have z:=Bh y;rw[ae f]at z;have H:=af (fun W=>eU (15-y) W (by omega));generalize p2 (15-y).toNat=PW at *
     have O:(PW:Int)<=32768:=by omega
     clear z;go_wp2_with fail;refine(aF _ _ _ _).mono ?_;rintro e x1 ⟨rfl,rfl⟩;rw[t];go_wp2_with fail;refine(ae H _).mono ?_;rintro e x2 ⟨rfl,rfl⟩;go_wp2;go_roundw
     case rel=>exact⟨k+1,by omega,by go_num,by rw[ae B,ae f];go_num,ae p,by first|rfl|trivial⟩
     case measure=>simp[intOf];omega
    .
     have f:Hid (krN y=0):=a0e N;go_wp2_with fail;refine(aF _ _ _ _).mono ?_;rintro e x1 ⟨rfl,rfl⟩;rw[t];go_wp2;go_roundw
     case rel=>exact⟨k+1,by omega,by go_num,by rw[ae B,ae f];rfl,ae p,by first|rfl|trivial⟩
     case measure=>simp[intOf];omega
  .
   have s:l.take k=l:=a0F (by omega);rw[s]at D ⊢;have d:inL l=true:=by have:=ae r;rw[s]at this;exact this
   have e14:p2 (14:Int).toNat=16384:=by decide
   have e15:p2 (15:Int).toNat=32768:=by decide
   have E14:=af e14;have E15:=af e15;have v:=af d;clear s r d e14 e15;have C:=af (sL a cap l.length l wr rfl h (ae I));by_cases L:(l.length:Int)<=300
   .
    have q:=af (sS (ae v) (by omega));clear h;by_cases c:us l=1
    .
     have b:Hid (au l=(decide (kr l=32768) || decide (kr l=16384))):=by
      show au l=_;rw[ae q,kX,a0v c,a2U]
     go_wp2_with fail;refine(ae C).mono ?_;rintro e x1 ⟨rfl,rfl⟩;rw[c];go_wp2_with fail;refine(eU 14 _ (by omega)).mono ?_;rintro e x2 ⟨rfl,rfl⟩;rw[ae E14];go_wp2_with fail;refine(eU 15 _ (by omega)).mono ?_;rintro e x3 ⟨rfl,rfl⟩;rw[ae E15];generalize kr l=K at *
     by_cases x:K=32768
     . subst x;go_wp2;go_ret;exact⟨am (by rw[ae b];rfl),rfl⟩
     .
      have g1:((K:Int) == 32768)=false:=by simp;omega
      by_cases h2:K=16384
      . subst h2;go_wp2;go_ret;exact⟨am (by rw[ae b];rfl),rfl⟩
      .
       have g2:((K:Int) == 16384)=false:=by simp;omega
       go_wp2;go_ret;exact⟨am (by rw[ae b];simp[x,h2]),rfl⟩
    .
     have g0:((us l:Int) == 1)=false:=by simp;omega
     have b:Hid (au l=decide (kr l=32768)):=by
      show au l=_;rw[ae q,kX,a0j c,Bool.false_and,Bool.or_false]
     go_wp2_with fail;refine(ae C).mono ?_;rintro e x1 ⟨rfl,rfl⟩;go_wp2_with fail;refine(eU 15 _ (by omega)).mono ?_;rintro e x3 ⟨rfl,rfl⟩;rw[ae E15];generalize kr l=K at *
     by_cases x:K=32768
     . subst x;go_wp2;go_ret;exact⟨am (by rw[ae b];rfl),rfl⟩
     .
      have g1:((K:Int) == 32768)=false:=by simp;omega
      go_wp2;go_ret;exact⟨am (by rw[ae b];simp[x]),rfl⟩
   .
    have m:=af (mz (l:=l) (Or.inr (by omega)));clear h;by_cases c:us l=1
    . go_wp2_with fail;refine(ae C).mono ?_;rintro e x1 ⟨rfl,rfl⟩;rw[c];go_wp2_with fail;refine(eU 14 _ (by omega)).mono ?_;rintro e x2 ⟨rfl,rfl⟩;rw[ae E14];go_wp2;go_ret;exact⟨am (by rw[ae m]),rfl⟩
    .
     have g0:((us l:Int) == 1)=false:=by simp;omega
     go_wp2_with fail;refine(ae C).mono ?_;rintro e x1 ⟨rfl,rfl⟩;go_wp2;go_ret;exact⟨am (by rw[ae m]),rfl⟩
theorem uj(a:Option Addr)(cap n:Nat)(l:List Int)(w:World)(O:l.length=n)(h:bp w a l)(p:inL l=true)(H:n<=300) :
  Calls prog 216 #[.slice a n cap] w fun e w'=>e = .returned (.bool (kX l))/\w'=w:=by
 subst O;have N:(l.length:Int)<=300:=by omega
 have J:=af H;have z:=af p;clear H p;go_enter func216,ntmps216;go_wp2_with fail
 go_loop [3,4,6,9] (fun u n _ i=>∃k:Nat,k<=l.length/\i = .int .i64 k/\u = .int .i64 (us (l.take k):Nat)/\n = .int .i64 (kr (l.take k):Nat)) (fun _ _ _ i=>l.length-(intOf i).toNat)
 case atStart=>exact⟨0,a0g _,rfl,rfl,rfl⟩
 case round=>
  obtain⟨k,M,rfl,rfl,rfl⟩:=hrel;have C:=La (l.take k);have F:=qS (l.take k);have D:(l.take k).length<=l.length:=by simp;omega
  have B:(kr (l.take k):Int)<=9830400:=by have:=ae J;omega
  have E:(us (l.take k):Int)<=300:=by omega
  clear C D F;by_cases f:k<l.length
  .
   obtain⟨g,o,rfl,T,m⟩:=h (by omega);have c0:=m k f;have s:=af (wh l k f);have t:=af (oW l k f);have S:inB (l.getD k 0) 0 15=true:=by
    rcases hb:inB (l.getD k 0) 0 15 with _|_
    . have:=wg f hb;rw[ae z]at this;exact absurd this (by simp)
    . rfl
   clear m M h;generalize l.getD k 0=y at *
   generalize kr (l.take k)=u at *
   generalize us (l.take k)=q at *
   obtain⟨y0,y1⟩:=aC.1 S;by_cases x:0<y
   .
    obtain⟨c,m⟩:∃c:Nat,15-y=(c:Int):=⟨(15-y).toNat,by omega⟩;have d:Hid (krN y=p2 c):=by
     show krN y=p2 c;unfold krN;rw[a0d x,m,a0p]
    have j:=Bh y;rw[ae d]at j;have b:Hid (us (l.take (k+1))=q+1):=by have:=ae t;rw[a0d x]at this;exact this
    have P:(1:Int)*2 ^ c=(p2 c:Int):=by rw[Int.one_mul,jI]
    have I:(2:Int) ^ c=(p2 c:Int):=(jI c).symm;generalize p2 c=PW at *
    have L:(PW:Int)<=32768:=by omega
    have Q:IntKind.i64.wrap (15-y)=(c:Int):=by rw[m];exact bF _ (by omega) (by omega)
    have R:IntKind.i64.wrap (PW:Int)=(PW:Int):=bF _ (by omega) (by omega);clear j;go_wp2
    go_round
    case rel=>exact⟨k+1,by omega,by go_num,by rw[ae b];go_num,by rw[ae s,ae d];go_num⟩
    case measure=>simp[intOf];omega
   .
    have d:Hid (krN y=0):=a0e x;have b:Hid (us (l.take (k+1))=q):=by have:=ae t;rw[a0e x]at this;exact this
    go_wp2
    go_round
    case rel=>exact⟨k+1,by omega,by go_num,by rw[ae b],by rw[ae s,ae d];rfl⟩
    case measure=>simp[intOf];omega
  .
   have r:l.take k=l:=a0F (by omega);rw[r]at B E ⊢;have v:Hid (kX l=(decide (kr l=32768) || (decide (us l=1)&&decide (kr l=16384)))):=rfl;clear h r;generalize kr l=K at *
   generalize us l=U at *
   by_cases A:K=32768
   . subst A;go_wp2;go_ret;exact⟨am (by rw[ae v];rfl),rfl⟩
   .
    have g1:((K:Int) == 32768)=false:=by simp;omega
    by_cases G:U=1
    .
     subst G;by_cases h2:K=16384
     . subst h2;go_wp2;go_ret;exact⟨am (by rw[ae v];rfl),rfl⟩
     .
      have g2:((K:Int) == 16384)=false:=by simp;omega
      go_wp2;go_ret;exact⟨am (by rw[ae v];simp[A,h2]),rfl⟩
    .
     have g3:((U:Int) == 1)=false:=by simp;omega
     go_wp2;go_ret;exact⟨am (by rw[ae v];simp[A,G]),rfl⟩
theorem sj(a:Option Addr)(cap n:Nat)(l:List Int)(w:World)(s:l.length=n)(h:bp w a l)(v:n<=1048576) :
  Calls prog 208 #[.slice a n cap] w fun e w'=>e = .returned (.bool (au l))/\w'=w:=by
 subst s;by_cases u:(l.length:Int)<=300
 .
  clear v;go_enter func208,ntmps208;go_wp2_with fail
  go_loopw [4,10] (fun _ i wr=>∃k:Nat,k<=l.length/\i = .int .i64 k/\inL (l.take k)=true/\wr=w) (fun _ i _=>l.length-(intOf i).toNat)
  case atStart=>exact⟨0,a0g _,rfl,rfl,rfl⟩
  case round=>
   obtain⟨k,A,rfl,b,rfl⟩:=hrel;have f:=af b;clear b;by_cases d:k<l.length
   .
    obtain⟨g,o,rfl,C,t⟩:=h (by omega);have c0:=t k d;have hit:=af (ym l k d);have j:=af (fun s=>wg d s);clear t A h;generalize l.getD k 0=y at *
    cases r:inB y 0 15
    .
     have c:=af (mz (a0o (ae j r)));rcases dZ.1 r with z|z
     . go_wp2;go_ret;exact⟨am (ae c).symm,rfl⟩
     .
      have B:¬ y<0:=by omega
      go_wp2;go_ret;exact⟨am (ae c).symm,rfl⟩
    .
     obtain⟨y0,y1⟩:=aC.1 r;have m:Hid (inL (l.take (k+1))=true):=by show inL (l.take (k+1))=true;rw[ae hit,ae f,r];rfl
     go_wp2;go_roundw
     case rel=>exact⟨k+1,by omega,by go_num,ae m,by first|rfl|trivial⟩
     case measure=>simp[intOf];omega
   .
    have p:l.take k=l:=a0F (by omega);have b:inL l=true:=by have:=ae f;rw[p]at this;exact this
    have q:=af (sS b (by omega));have x:=af (uj a cap l.length l wr rfl h b (by omega));clear p b h;go_wp2_with fail;refine(ae x).mono ?_;rintro e x1 ⟨rfl,rfl⟩;go_wp2;go_ret;exact⟨am (ae q).symm,rfl⟩
 . have c:=af (mz (l:=l) (Or.inr (by omega)));clear v h;go_enter func208,ntmps208;go_wp2;go_ret;exact⟨am (ae c).symm,rfl⟩
def inn(l:List Int)(n:Int)(s:Nat×List Int):Nat->Nat×List Int
 | 0=>s
 | k+1=>if l.getD k 0=n then((inn l n s k).1+1,(inn l n s k).2.set k ((inn l n s k).1:Int))else inn l n s k
def aT(l:List Int):Nat->Nat×List Int
 | 0=>(0,List.replicate l.length 0)
 | N+1=>inn l ((N:Int)+1) (2*(aT l N).1,(aT l N).2) l.length
theorem rn(l:List Int)(n:Int)(s:Nat×List Int)(k:Nat):(inn l n s k).2.length=s.2.length:=by
 induction k with
 | zero=>rfl
 | succ k ih=>
  simp only[inn]
  split
  . simpa using ih
  . exact ih
theorem bz(l:List Int)(N:Nat):(aT l N).2.length=l.length:=by
 induction N with
 | zero=>simp[aT]
 | succ N ih=>simp only[aT];rw[rn];exact ih
theorem Bc(l:List Int)(n:Int)(s:Nat×List Int)(k:Nat):(inn l n s k).1<=s.1+k:=by
 induction k with
 | zero=>exact a0a _
 | succ k ih=>
  simp only[inn]
  split
  . simp only;omega
  . omega
theorem Kv(l:List Int)(N:Nat):(aT l N).1+l.length<=2 ^ N*l.length:=by
 induction N with
 | zero=>simp[aT]
 | succ N ih=>
  simp only[aT];have h:=Bc l ((N:Int)+1) (2*(aT l N).1,(aT l N).2) l.length;simp only at h;have e:2 ^ (N+1)*l.length=2*(2 ^ N*l.length):=by rw[a1t,a1d (2 ^ N),a1C]
  omega
theorem rt(l:List Int)(N:Nat)(a:N<=15)(b:l.length<=300):(aT l N).1<=9830400:=by
 have h:=Kv l N;have h2:2 ^ N<=2 ^ 15:=a0Q (by omega) a;have c:2 ^ N*l.length<=32768*300:=a2e h2 b;omega
theorem dM(a:Option Addr)(cap n:Nat)(l:List Int)(w:World)(U:l.length=n)(h:bp w a l)(X:n<=300) :
  Calls prog 172 #[.slice a n cap] w fun e w'=>e = .returned (.slice (some ⟨w.heap.size,0,none⟩) n n)/\ak w' w.heap.size (.slice (some ⟨w.heap.size,0,none⟩) n n) (aT l 15).2/\Below w.heap.size w w':=by
 have ab:(n:Int)<=300:=by omega
 obtain⟨i0,W,G,H,I⟩:=a0t Tryz.infoInt;have u:=af U;have L:=af X;go_enter func172,ntmps172;go_wp2_with (at_make;refine a1y _ rfl _ _ 56 rfl w.heap.size 3 i0 (.int .i64 0) 1 a0D W G H .i64 .i64 _ _ n rfl rfl rfl rfl (by rw[I];omega) (by unfold maxLen;omega) (a0a _) ?_;intro w1 s p);have D:ak w1 w.heap.size (.slice (some ⟨w.heap.size,0,none⟩) n n) (aT l 0).2:=by
  show ak w1 w.heap.size (.slice (some ⟨w.heap.size,0,none⟩) n n) (List.replicate l.length 0);rw[U];exact cZ s
 have z:Below w.heap.size w w1:=(a0c _ _).grown p (a0a _) (fun k h=>by cases h);clear s p W G H I X U
 go_loopw [4,5,6] (fun c m _ wr=>∃N:Nat,N<=15/\m = .int .i64 ((N:Int)+1)/\c = .int .i64 (2*(aT l N).1:Nat)/\ak wr w.heap.size (.slice (some ⟨w.heap.size,0,none⟩) n n) (aT l N).2/\Below w.heap.size w wr) (fun _ m _ _=>16-(intOf m).toNat)
 case atStart=>exact⟨0,by omega,rfl,rfl,D,z⟩
 case round=>
  obtain⟨N,Y,rfl,rfl,J,f⟩:=hrel;clear D z;have P:=rt l N Y (by rw[ae u];exact ae L);have O:((2*(aT l N).1:Nat):Int)<=19660800:=by omega
  have Z:(N:Int)<=15:=by omega
  by_cases aa:N<15
  .
   have q:Hid ((aT l N).2.length=n):=(bz l N).trans (ae u);have A:Hid (aT l (N+1)=inn l ((N:Int)+1) (2*(aT l N).1,(aT l N).2) l.length):=rfl;have t:=af (rt l (N+1) (by omega) (by rw[ae u];exact ae L));generalize M:((2*(aT l N).1,(aT l N).2):Nat×List Int)=S at *
   have v:2*(aT l N).1=S.1:=by rw[←M]
   have x:(aT l N).2=S.2:=by rw[←M]
   rw[v]at O ⊢;rw[x]at J q;clear M v x P;go_wp2_with fail
   go_loopw [4,6] (fun c i wr=>∃k:Nat,k<=n/\i = .int .i64 k/\c = .int .i64 ((inn l ((N:Int)+1) S k).1:Nat)/\ak wr w.heap.size (.slice (some ⟨w.heap.size,0,none⟩) n n) (inn l ((N:Int)+1) S k).2/\Below w.heap.size w wr) (fun _ i _=>n-(intOf i).toNat)
   case atStart=>exact⟨0,a0g _,rfl,rfl,J,f⟩
   case round=>
    obtain⟨k,hk,rfl,rfl,hq,hb⟩:=hrel;clear J f;have r:Hid ((inn l ((N:Int)+1) S k).2.length=n):=(rn _ _ _ _).trans (ae q);have R:=Bc l ((N:Int)+1) S k;have C:((inn l ((N:Int)+1) S k).1:Int)<=19661100:=by have:=ae L;omega
    clear R;by_cases B:k<n
    .
     obtain⟨g,o,rfl,hg,V⟩:=(h.later hb) (by rw[ae u];omega);have c0:=V k (by rw[ae u];exact B);obtain⟨d0,f0,_,_⟩:=hq.at (ae r) B;have F:Hid (inn l ((N:Int)+1) S (k+1)=if l.getD k 0=(N:Int)+1 then((inn l ((N:Int)+1) S k).1+1,(inn l ((N:Int)+1) S k).2.set k ((inn l ((N:Int)+1) S k).1:Int))else inn l ((N:Int)+1) S k):=rfl;clear V hk h;generalize l.getD k 0=y at *
     generalize inn l ((N:Int)+1) S k=T at *
     by_cases K:y=(N:Int)+1
     .
      have b:Hid (inn l ((N:Int)+1) S (k+1)=(T.1+1,T.2.set k (T.1:Int))):=by have:=ae F;rw[a0d K]at this;exact this
      have E:=af (hq.put (j:=k) (ae r) (T.1:Int));subst K;generalize T.2.getD k 0=d at *
      go_wp2;go_roundw
      case rel=>exact⟨k+1,by omega,by go_num,by rw[ae b];go_num,by rw[ae b];exact ae E,ah hb (a0a _) _⟩
      case measure=>simp[intOf];omega
     .
      have b:Hid (inn l ((N:Int)+1) S (k+1)=T):=by have:=ae F;rw[a0e K]at this;exact this
      have g1:(y == (N:Int)+1)=false:=by simpa using K
      go_wp2;go_roundw
      case rel=>exact⟨k+1,by omega,by go_num,by rw[ae b],by rw[ae b];exact hq,hb⟩
      case measure=>simp[intOf];omega
    .
     have Q:k=l.length:=by have:=ae u;omega
     subst Q;rw[←ae A]at hq C ⊢;have ac:((aT l (N+1)).1:Int)<=9830400:=by have:=ae t;omega
     go_wp2;go_roundw
     case rel=>exact⟨N+1,by omega,by go_num,by go_num,hq,hb⟩
     case measure=>simp[intOf];omega
  .
   obtain rfl:N=15:=by omega
   go_wp2;go_ret;exact⟨rfl,J,f⟩
def many(l:List Int)(n:Int):Nat->Nat
 | 0=>0
 | k+1=>if l.getD k 0=n then many l n k+1 else many l n k
def syms(l:List Int)(n:Int)(s:List Int):Nat->List Int
 | 0=>s
 | k+1=>if l.getD k 0=n then syms l n s k++[(k:Int)]else syms l n s k
def dp(l:List Int):Nat->List Int
 | 0=>[]
 | N+1=>syms l ((N:Int)+1) (dp l N) l.length
def gg(l:List Int)(N j:Nat):Nat:=if 1<=j/\j<=N then many l (j:Int) l.length else 0
def fI(w:World)(b:Nat)(vl vc vs:Value)(m:Nat->Nat):Prop:=
 w.cell? ⟨b,0,none⟩=some vl/\w.cell? ⟨b,1,none⟩=some vc/\(∀j,j<16->w.cell? ⟨b,2+j,none⟩=some (.int .i64 (m j:Nat)))/\w.cell? ⟨b,18,none⟩=some vs/\(∀o,w.frozen? ⟨b,o,none⟩=false)/\b<w.heap.size
theorem fI.kept(h:fI w b vl vc vs m)(hb:Below (b+1) w w'):fI w' b vl vc vs m:=by
 obtain⟨c0,c1,c2,c3,f,c⟩:=h;have a:=a0h b;exact⟨(hb.cell (p:=⟨b,0,none⟩) a).trans c0,(hb.cell (p:=⟨b,1,none⟩) a).trans c1,fun j d=>(hb.cell (p:=⟨b,2+j,none⟩) a).trans (c2 j d),(hb.cell (p:=⟨b,18,none⟩) a).trans c3,fun o=>(hb.frozen (p:=⟨b,o,none⟩) a).trans (f o),a0k c hb.size⟩
theorem fI.other(h:fI w b vl vc vs m)(d:g≠b)(u:Value):fI (w.setCell ⟨g,o,none⟩ u) b vl vc vs m:=by
 obtain⟨c0,c1,c2,c3,f,a⟩:=h;refine⟨?_,?_,fun j c=>?_,?_,fun o=>by simpa using f o,by simpa using a⟩
 . rw[World.cell?_setCell_other _ _ _ _ (by simp only[ne_eq,a0A];omega)];exact c0
 . rw[World.cell?_setCell_other _ _ _ _ (by simp only[ne_eq,a0A];omega)];exact c1
 . rw[World.cell?_setCell_other _ _ _ _ (by simp only[ne_eq,a0A];omega)];exact c2 j c
 . rw[World.cell?_setCell_other _ _ _ _ (by simp only[ne_eq,a0A];omega)];exact c3
theorem fI.many{x:Nat}(h:fI w b vl vc vs m)(d:i<16):fI (w.setCell ⟨b,2+i,none⟩ (.int .i64 (x:Nat))) b vl vc vs (fun j=>if j=i then x else m j):=by
 obtain⟨c0,c1,c2,c3,f,a⟩:=h;refine⟨?_,?_,fun j c=>?_,?_,fun o=>by simpa using f o,by simpa using a⟩
 . rw[World.cell?_setCell_other _ _ _ _ (by simp only[ne_eq,a0A];omega)];exact c0
 . rw[World.cell?_setCell_other _ _ _ _ (by simp only[ne_eq,a0A];omega)];exact c1
 .
  by_cases e:j=i
  . subst e;rw[World.cell?_setCell_same _ _ _ (c2 j c)];simp
  . rw[World.cell?_setCell_other _ _ _ _ (by simp only[ne_eq,a0A];omega)];simp only[a0e e];exact c2 j c
 . rw[World.cell?_setCell_other _ _ _ _ (by simp only[ne_eq,a0A];omega)];exact c3
theorem fI.sorted(h:fI w b vl vc vs m)(u:Value):fI (w.setCell ⟨b,18,none⟩ u) b vl vc u m:=by
 obtain⟨c0,c1,c2,c3,f,a⟩:=h;refine⟨?_,?_,fun j c=>?_,World.cell?_setCell_same _ _ _ c3,fun o=>by simpa using f o,by simpa using a⟩
 . rw[World.cell?_setCell_other _ _ _ _ (by simp only[ne_eq,a0A];omega)];exact c0
 . rw[World.cell?_setCell_other _ _ _ _ (by simp only[ne_eq,a0A];omega)];exact c1
 . rw[World.cell?_setCell_other _ _ _ _ (by simp only[ne_eq,a0A];omega)];exact c2 j c
theorem Hi(l:List Int)(n:Int)(k:Nat):many l n k<=k:=by
 induction k with
 | zero=>exact a0a _
 | succ k ih=>simp only[many];split<;>omega
theorem BJ(l:List Int)(N:Nat):(fun j=>if j=N+1 then many l ((N:Int)+1) l.length else gg l N j)=gg l (N+1):=by
 funext j
 unfold gg;by_cases e:j=N+1
 .
  subst e;rw[a0d rfl,a0d ⟨by omega,by omega⟩]
  congr 1
 .
  rw[a0e e];by_cases h:1<=j/\j<=N
  . rw[a0d h,a0d ⟨h.1,by omega⟩]
  . rw[a0e h,a0e (by omega)]
theorem BL(l:List Int)(N:Nat):(fun j=>if j=N+1 then many l ((N:Int)+1) 0 else gg l N j)=gg l N:=by
 funext j
 by_cases e:j=N+1
 . subst e;rw[a0d rfl];unfold gg;rw[a0e (by omega)];rfl
 . rw[a0e e]
theorem vp(l:List Int)(n:Int)(s:List Int)(k:Nat):(syms l n s k).length<=s.length+k:=by
 induction k with
 | zero=>exact a0a _
 | succ k ih=>
  simp only[syms]
  split
  . simp;omega
  . omega
theorem tP(l:List Int)(N:Nat):(dp l N).length<=N*l.length:=by
 induction N with
 | zero=>simp[dp]
 | succ N ih=>
  have:=vp l ((N:Int)+1) (dp l N) l.length;simp only[dp];rw[a1W,Nat.one_mul];omega
def nx(l:List Int):Nat->Nat
 | 0=>0
 | N+1=>2*nx l N+many l ((N:Int)+1) l.length
def pl(l:List Int):Nat->Nat
 | 0=>0
 | N+1=>pl l N+many l ((N:Int)+1) l.length
theorem Da(l:List Int)(n:Int)(s:Nat×List Int)(k:Nat):(inn l n s k).1=s.1+many l n k:=by
 induction k with
 | zero=>rfl
 | succ k ih=>
  simp only[inn,many]
  split
  . simp only[ih];omega
  . exact ih
theorem Ii(l:List Int)(N:Nat):(aT l N).1=nx l N:=by
 induction N with
 | zero=>rfl
 | succ N ih=>simp only[aT,nx];rw[Da,ih]
theorem J6(l:List Int)(n:Int)(s:Nat×List Int)(k i:Nat)(b:i<s.2.length):(inn l n s k).2.getD i 0=if i<k/\l.getD i 0=n then((s.1+many l n i:Nat):Int)else s.2.getD i 0:=by
 induction k with
 | zero=>simp[inn]
 | succ k ih=>
  simp only[inn]
  split
  case isTrue h=>
   by_cases e:i=k
   .
    subst e;have c:i<(inn l n s i).2.length:=by rw[rn];exact b
    rw[a0d ⟨a0h _,h⟩];simp only[List.getD,List.getElem?_set_self c,a2B];rw[Da]
   .
    have e2:((inn l n s k).2.set k ((inn l n s k).1:Int)).getD i 0=(inn l n s k).2.getD i 0:=by
     simp only[List.getD];rw[List.getElem?_set_ne (Ne.symm e)]
    simp only;rw[e2,ih];by_cases h2:i<k
    . simp[h2,Nat.lt_succ_of_lt h2]
    . rw[a0e (by omega),a0e (by omega)]
  case isFalse h=>
   rw[ih];by_cases e:i=k
   . subst e;rw[a0e (by omega),a0e (fun a=>h a.2)]
   .
    by_cases h2:i<k
    . simp[h2,Nat.lt_succ_of_lt h2]
    . rw[a0e (by omega),a0e (by omega)]
def bY(l:List Int)(i:Nat):Nat:=2*nx l ((l.getD i 0).toNat-1)+many l (l.getD i 0) i
theorem zg(l:List Int)(N i:Nat)(a:i<l.length):(aT l N).2.getD i 0=if 1<=l.getD i 0/\l.getD i 0<=(N:Int)then(bY l i:Int)else 0:=by
 induction N with
 | zero=>
  rw[a0e (by omega)];simp[aT,List.getD,a]
 | succ N ih=>
  simp only[aT];rw[J6 _ _ _ _ _ (by simp only[bz];exact a)];simp only;by_cases e:l.getD i 0=(N:Int)+1
  .
   rw[a0d ⟨a,e⟩,a0d ⟨by omega,by omega⟩,Ii];unfold bY;rw[e];have:((N:Int)+1).toNat-1=N:=by omega
   rw[this]
  .
   rw[a0e (fun b=>e b.2),ih];by_cases h2:1<=l.getD i 0/\l.getD i 0<=(N:Int)
   . rw[a0d h2,a0d ⟨h2.1,by omega⟩]
   . rw[a0e h2,a0e (by omega)]
/-! Kraft's sum, by lengths. -/
def krU(N:Nat)(l:List Int):Nat:=(l.map (fun b=>if 0<b/\b<=(N:Int)then p2 (15-b).toNat else 0)).sum
theorem Lw(N:Nat)(l:List Int):krU N l<=kr l:=by
 induction l with
 | nil=>exact a0a _
 | cons b l ih=>
  simp only[krU,kr,krN,a0B,a0P]at ih ⊢
  split<;>split<;>omega
theorem EQ(b:Int)(l:List Int)(n:Int)(k:Nat):many (b :: l) n (k+1)=(if b=n then 1 else 0)+many l n k:=by
 induction k with
 | zero=>simp[many]
 | succ k ih=>
  have e:many (b :: l) n (k+1+1)=if (b :: l).getD (k+1) 0=n then many (b :: l) n (k+1)+1 else many (b :: l) n (k+1):=rfl
  have e2:(b :: l).getD (k+1) 0=l.getD k 0:=by simp[List.getD]
  rw[e,e2,ih];simp only[many]
  split<;>split<;>omega
theorem GT(N:Nat)(a:N<15)(l:List Int):krU (N+1) l=krU N l+many l ((N:Int)+1) l.length*p2 (14-N):=by
 induction l with
 | nil=>simp[krU,many]
 | cons b l ih=>
  rw[a0E,EQ,a1W];simp only[krU,a0B,a0P]at ih ⊢;rw[ih];by_cases e:b=(N:Int)+1
  .
   rw[a0d (by omega),a0e (by omega),a0d e];have:(15-b).toNat=14-N:=by omega
   rw[this];omega
  .
   rw[a0e e];by_cases h:0<b/\b<=(N:Int)
   . rw[a0d h,a0d (by omega)];omega
   . rw[a0e h,a0e (by omega)];omega
theorem Me(l:List Int)(N:Nat)(a:N<=15):nx l N*p2 (15-N)=krU N l:=by
 induction N with
 | zero=>
  have:krU 0 l=0:=by
   induction l with
   | nil=>rfl
   | cons b l ih=>
    simp only[krU,a0B,a0P]at ih ⊢;rw[ih,a0e (by omega)]
  rw[this];simp[nx]
 | succ N ih=>
  rw[GT N (by omega),←ih (by omega)];have e1:15-N=(14-N)+1:=by omega
  have e2:15-(N+1)=14-N:=by omega
  rw[e1,e2,jq];simp only[nx];rw[a1W,a1d 2,a1C,a1d 2]
theorem Mb(h:au l=true):kr l<=32768:=by
 simp only[au,kX,a0l,a1h,a2u]at h;omega
theorem Lc(h:au l=true)(N:Nat)(a:N<=15):nx l N<=p2 N:=by
 have c:=Me l N a;have h2:=Lw N l;have d:=Mb h;have e:p2 N*p2 (15-N)=32768:=by
  unfold p2;rw[←a0S];have:N+(15-N)=15:=by omega
  rw[this]
 have b:=lP (15-N);exact Nat.le_of_mul_le_mul_right (by omega:nx l N*p2 (15-N)<=p2 N*p2 (15-N)) b
theorem oz{n:Int}(a:l.getD i 0=n):∀k,i<k->many l n i<many l n k:=by
 intro k b;induction k with
 | zero=>omega
 | succ k ih=>
  by_cases e:i=k
  . subst e;simp only[many];rw[a0d a];omega
  .
   have:=ih (by omega);simp only[many]
   split<;>omega
theorem lH(h:inL l=true)(a:i<l.length):0<=l.getD i 0/\l.getD i 0<=15:=by
 have:=a1m.1 h (l.getD i 0) (by simp[List.getD,a]);exact aC.1 this
theorem fN(h:au l=true):inL l=true:=by
 simp only[au,a0l]at h;exact h.1.1
theorem pg(h:au l=true)(b:i<l.length)(d:1<=l.getD i 0):bY l i<p2 (l.getD i 0).toNat/\bY l i<nx l (l.getD i 0).toNat:=by
 obtain⟨_,hb⟩:=lH (fN h) b;obtain⟨n,hn⟩:∃n:Nat,l.getD i 0=(n:Int)+1:=⟨(l.getD i 0).toNat-1,by omega⟩;have a:=Lc h (n+1) (by omega);have c:=oz hn l.length b;have e1:(l.getD i 0).toNat=n+1:=by omega
 unfold bY;rw[e1,hn];simp only[nx,a3A]at a ⊢;omega
theorem uw(h:au l=true)(b:i<l.length):(aT l 15).2.getD i 0=if 1<=l.getD i 0 then(bY l i:Int)else 0:=by
 rw[zg l 15 i b];have:=(lH (fN h) b).2;by_cases a:1<=l.getD i 0
 . rw[a0d a,a0d ⟨a,by omega⟩]
 . rw[a0e a,a0e (by omega)]
/-! Symbols in their order. -/
theorem oT(l:List Int)(n:Int)(s:List Int)(k:Nat):(syms l n s k).length=s.length+many l n k:=by
 induction k with
 | zero=>rfl
 | succ k ih=>
  simp only[syms,many]
  split
  . simp[ih];omega
  . exact ih
theorem oS(l:List Int)(N:Nat):(dp l N).length=pl l N:=by
 induction N with
 | zero=>rfl
 | succ N ih=>simp only[dp,pl];rw[oT,ih]
theorem I9(l:List Int)(n:Int)(s:List Int)(k j:Nat)(b:j<s.length):(syms l n s k).getD j 0=s.getD j 0:=by
 induction k with
 | zero=>rfl
 | succ k ih=>
  simp only[syms]
  split
  .
   have a:j<(syms l n s k).length:=by rw[oT];omega
   rw[←ih];simp only[List.getD];rw[List.getElem?_append_left a]
  . exact ih
theorem I8(l:List Int)(n:Int)(s:List Int)(k i:Nat)(d:i<k)(a:l.getD i 0=n):(syms l n s k).getD (s.length+many l n i) 0=(i:Int):=by
 induction k with
 | zero=>omega
 | succ k ih=>
  simp only[syms];by_cases e:i=k
  . subst e;rw[a0d a];simp only[List.getD];rw[List.getElem?_append_right (by rw[oT];omega),oT];simp
  .
   have c:=oz a k (by omega)
   split
   .
    have b:s.length+many l n i<(syms l n s k).length:=by rw[oT];omega
    rw[←ih (by omega)];simp only[List.getD];rw[List.getElem?_append_left b]
   . exact ih (by omega)
theorem vo (l : List Int) (N n i : Nat) (hi : i < l.length) (hn : l.getD i 0 = (n : Int) + 1) (hN : n < N) : (dp l N).getD (pl l n + many l ((n : Int) + 1) i) 0 = (i : Int) := by
  induction N with
  | zero => omega
  | succ N ih =>
    by_cases e : n = N
    . subst e
      simp only [dp]
      rw [← oS]
      exact I8 l _ _ _ i hi hn
    . simp only [dp]
      have hlt := oz hn l.length hi
      have hmono : pl l (n + 1) ≤ pl l N := by
        have : ∀ a b, a ≤ b → pl l a ≤ pl l b := by
          intro a b hab
          induction b with
          | zero => have : a = 0 := by omega
                    rw [this]; exact a0a _
          | succ b ihb =>
            by_cases e2 : a = b + 1
            . rw [e2]; exact a0a _
            . have := ihb (by omega)
              simp only [pl]; omega
        exact this _ _ (by omega)
      have hp : pl l (n + 1) = pl l n + many l ((n : Int) + 1) l.length := rfl
      rw [I9 _ _ _ _ _ (by rw [oS]; omega)]
      exact ih (by omega)
theorem Kh(l:List Int)(n:Int)(k t:Nat)(h:t<many l n k):∃i,i<k/\l.getD i 0=n/\many l n i=t:=by
 induction k with
 | zero=>simp[many]at h
 | succ k ih=>
  simp only[many]at h
  split at h
  case isTrue hn=>
   by_cases e:t=many l n k
   . exact⟨k,a0h _,hn,e.symm⟩
   . obtain⟨i,b,a,h2⟩:=ih (by omega);exact⟨i,by omega,a,h2⟩
  case isFalse=>
   obtain⟨i,b,a,h2⟩:=ih h;exact⟨i,by omega,a,h2⟩
def mR(i:Nat):Int:=if i<144 then 8 else if i<256 then 9 else if i<280 then 7 else 8
def bR(k:Nat):List Int:=(List.range k).map mR
theorem cO(k:Nat):(bR k).length=k:=by simp[bR]
theorem ms(k:Nat):bR (k+1)=bR k++[mR k]:=by simp[bR,List.range_succ]
theorem qz(w:World) :
  Calls prog 139 #[] w fun e w'=>∃v,e = .returned v/\ak w' w.heap.size v (List.replicate 32 5)/\Below w.heap.size w w':=by
 obtain⟨i0,x,q,r,s⟩:=a0t Tryz.infoInt;have o:Hid (ak (w.alloc (.cells #[] 3)) w.heap.size (.slice (some ⟨w.heap.size,0,none⟩) 0 0) []):=ak.lit _ _ (a0a _);have m:Hid (Below w.heap.size w (w.alloc (.cells #[] 3))):=(a0c _ _).alloc (a0a _) _;go_enter func139,ntmps139;go_wp2_with fail
 go_loopw [1,2] (fun v i wr=>∃k:Nat,k<=32/\i = .int .i64 k/\ak wr w.heap.size v (List.replicate k 5)/\Below w.heap.size w wr) (fun _ i _=>32-(intOf i).toNat)
 case atStart=>exact⟨0,a0g _,rfl,ae o,ae m⟩
 case round=>
  obtain⟨k,A,rfl,hq,a⟩:=hrel;have c:Hid ((List.replicate k (5:Int)).length=k):=a0w;obtain⟨va,vc,rfl⟩:=hq.formN (ae c);have y:(k:Int)<=32:=by omega
  by_cases z:k<32
  .
   have u:(k:Int)<32:=by omega
   have p:Hid (List.replicate k (5:Int)++[5]=List.replicate (k+1) 5):=by show _=_;rw[a2Z]
   have t:Hid (k+1<=maxLen/\(k+1)*8<=140737488355328):=by show _/\_;unfold maxLen;omega
   have l:=af (hq.own (ae c));have g:=a.size;have f:=af a;clear hq a;go_wp2_with (at_builtin;refine a0x _ rfl _ _ 56 rfl w.heap.size 3 i0 (.int .i64 0) 1 8 a0D x q r s rfl (by decide) (.slice va k vc) _ _ rfl (a0r (ae l) _) ⟨wr.heap.size,0,none⟩ 1 1 [.int .i64 5] rfl rfl (bD _ _ rfl _ _) (en _) (ae t).1 (ae t).2 (ax g _) ?_;intro v' x2 d b h;clear h);have n:=aG (v:=.slice va k vc) b (ae l) (a0a _) g (ae f);have j:=de (ae c) d;rw[ae p]at j;clear d b;go_wp2;go_roundw
   case rel=>exact⟨k+1,by omega,by go_num,j,n⟩
   case measure=>simp[intOf];omega
  .
   obtain rfl:k=32:=by omega
   go_wp2;go_ret;exact⟨_,rfl,hq,a⟩
theorem qA(w:World) :
  Calls prog 138 #[] w fun e w'=>∃v,e = .returned v/\ak w' w.heap.size v (bR 288)/\Below w.heap.size w w':=by
 obtain⟨i0,t,p,q,r⟩:=a0t Tryz.infoInt;have x:Hid (ak (w.alloc (.cells #[] 3)) w.heap.size (.slice (some ⟨w.heap.size,0,none⟩) 0 0) (bR 0)):=ak.lit _ _ (a0a _);have u:Hid (Below w.heap.size w (w.alloc (.cells #[] 3))):=(a0c _ _).alloc (a0a _) _;go_enter func138,ntmps138;go_wp2_with fail
 go_loopw [1,2] (fun v i wr=>∃k:Nat,k<=288/\i = .int .i64 k/\ak wr w.heap.size v (bR k)/\Below w.heap.size w wr) (fun _ i _=>288-(intOf i).toNat)
 case atStart=>exact⟨0,a0g _,rfl,ae x,ae u⟩
 case round=>
  obtain⟨k,D,rfl,hq,o⟩:=hrel;have f:=af (cO k);obtain⟨va,vc,rfl⟩:=hq.formN (ae f);have z:(k:Int)<=288:=by omega
  by_cases A:k<288
  .
   have y:(k:Int)<288:=by omega
   have s:Hid (k+1<=maxLen/\(k+1)*8<=140737488355328):=by show _/\_;unfold maxLen;omega
   have h:=af (hq.own (ae f));have g:=o.size;have n:=af o;clear hq o;by_cases B:(k:Int)<144
   .
    have j:Hid (mR k=8):=by show _=_;unfold mR;rw[a0d (by omega)]
    have m:Hid (bR k++[8]=bR (k+1)):=by show _=_;rw[ms,ae j]
    go_wp2_with (at_builtin;refine a0x _ rfl _ _ 56 rfl w.heap.size 3 i0 (.int .i64 0) 1 8 a0D t p q r rfl (by decide) (.slice va k vc) _ _ rfl (a0r (ae h) _) ⟨wr.heap.size,0,none⟩ 1 1 [.int .i64 8] rfl rfl (bD _ _ rfl _ _) (en _) (ae s).1 (ae s).2 (ax g _) ?_;intro v' x2 b a c;clear c);have l:=aG (v:=.slice va k vc) a (ae h) (a0a _) g (ae n);have d:=de (ae f) b;rw[ae m]at d;clear b a;go_wp2;go_roundw
    case rel=>exact⟨k+1,by omega,by go_num,d,l⟩
    case measure=>simp[intOf];omega
   .
    by_cases h2:(k:Int)<256
    .
     have j:Hid (mR k=9):=by show _=_;unfold mR;rw[a0e (by omega),a0d (by omega)]
     have m:Hid (bR k++[9]=bR (k+1)):=by show _=_;rw[ms,ae j]
     go_wp2_with (at_builtin;refine a0x _ rfl _ _ 56 rfl w.heap.size 3 i0 (.int .i64 0) 1 8 a0D t p q r rfl (by decide) (.slice va k vc) _ _ rfl (a0r (ae h) _) ⟨wr.heap.size,0,none⟩ 1 1 [.int .i64 9] rfl rfl (bD _ _ rfl _ _) (en _) (ae s).1 (ae s).2 (ax g _) ?_;intro v' x2 b a c;clear c);have l:=aG (v:=.slice va k vc) a (ae h) (a0a _) g (ae n);have d:=de (ae f) b;rw[ae m]at d;clear b a;go_wp2;go_roundw
     case rel=>exact⟨k+1,by omega,by go_num,d,l⟩
     case measure=>simp[intOf];omega
    .
     by_cases C:(k:Int)<280
     .
      have j:Hid (mR k=7):=by show _=_;unfold mR;rw[a0e (by omega),a0e (by omega),a0d (by omega)]
      have m:Hid (bR k++[7]=bR (k+1)):=by show _=_;rw[ms,ae j]
      go_wp2_with (at_builtin;refine a0x _ rfl _ _ 56 rfl w.heap.size 3 i0 (.int .i64 0) 1 8 a0D t p q r rfl (by decide) (.slice va k vc) _ _ rfl (a0r (ae h) _) ⟨wr.heap.size,0,none⟩ 1 1 [.int .i64 7] rfl rfl (bD _ _ rfl _ _) (en _) (ae s).1 (ae s).2 (ax g _) ?_;intro v' x2 b a c;clear c);have l:=aG (v:=.slice va k vc) a (ae h) (a0a _) g (ae n);have d:=de (ae f) b;rw[ae m]at d;clear b a;go_wp2;go_roundw
      case rel=>exact⟨k+1,by omega,by go_num,d,l⟩
      case measure=>simp[intOf];omega
     .
      have j:Hid (mR k=8):=by show _=_;unfold mR;rw[a0e (by omega),a0e (by omega),a0e (by omega)]
      have m:Hid (bR k++[8]=bR (k+1)):=by show _=_;rw[ms,ae j]
      go_wp2_with (at_builtin;refine a0x _ rfl _ _ 56 rfl w.heap.size 3 i0 (.int .i64 0) 1 8 a0D t p q r rfl (by decide) (.slice va k vc) _ _ rfl (a0r (ae h) _) ⟨wr.heap.size,0,none⟩ 1 1 [.int .i64 8] rfl rfl (bD _ _ rfl _ _) (en _) (ae s).1 (ae s).2 (ax g _) ?_;intro v' x2 b a c;clear c);have l:=aG (v:=.slice va k vc) a (ae h) (a0a _) g (ae n);have d:=de (ae f) b;rw[ae m]at d;clear b a;go_wp2;go_roundw
      case rel=>exact⟨k+1,by omega,by go_num,d,l⟩
      case measure=>simp[intOf];omega
  .
   obtain rfl:k=288:=by omega
   go_wp2;go_ret;exact⟨_,rfl,hq,o⟩
def fnd(L G num:Nat):Nat->Nat
 | 0=>0
 | k+1=>if num<(stF L G (k+1)).1 then fnd L G num k else k+1
theorem f9(L G num k:Nat):fnd L G num k<=k:=by
 induction k with
 | zero=>exact a0a _
 | succ k ih=>simp only[fnd];split<;>omega
theorem Gu{num:Nat}(h:num<(stF L G (k+1)).1):fnd L G num (k+1)=fnd L G num k:=by simp only[fnd];rw[a0d h]
theorem Gv{num:Nat}(h:¬ num<(stF L G k).1):fnd L G num k=k:=by
 cases k with
 | zero=>rfl
 | succ k=>simp only[fnd];rw[a0e h]
theorem qd(e:L<=3)(a:1<=G)(b:G<=4)(f:k/G<=15):(stF L G k).1<=200000/\(stF L G k).2<=14:=by
 unfold stF
 split
 . simp only;omega
 .
  have c:p2 (k/G-1)<=p2 14:=a0Q (by omega) (by omega);have h2:p2 14=16384:=by decide
  have d:(G+k%G)*p2 (k/G-1)<=8*16384:=a2e (by have:=a0W k a;omega) (by omega);simp only;omega
theorem pG{x:Value}(h:w.heap[b]?=some (Obj.cells #[x,y] t))(u v:Value):((w.setCell ⟨b,0,none⟩ u).setCell ⟨b,1,none⟩ v).heap[b]?=some (Obj.cells #[u,v] t):=by
 have a:(w.setCell ⟨b,0,none⟩ u).heap[b]?=some (Obj.cells #[u,y] t):=by
  show(w.heap.modify b _)[b]?=_;rw[Array.getElem?_modify,a0d rfl,h];simp
 generalize w.setCell ⟨b,0,none⟩ u=W at *
 show(W.heap.modify b _)[b]?=_;rw[Array.getElem?_modify,a0d rfl,a];simp
theorem mx{x:Value}(h:w.heap[b]?=some (Obj.cells #[x,y] t)):w.frozen? ⟨b,0,none⟩=false/\w.frozen? ⟨b,1,none⟩=false:=⟨by simp[World.frozen?,h],by simp[World.frozen?,h]⟩
theorem xP(L G M num:Nat)(w:World)(O:L<=3)(N:1<=G)(r:G<=4)(P:1<=M)(hM:M<=30)(l:(M-1)/G<=15)(z:L<=num)(hn:num<=1000) :
  CD 161 #[.agg #[.int .i64 (L:Nat),.int .i64 (G:Nat),.int .i64 (M:Nat)],.int .i64 (num:Nat)] w (.tuple #[.int .i64 (fnd L G num (M-1):Nat),.agg #[.int .i64 ((num:Int)-((stF L G (fnd L G num (M-1))).1:Int)),.int .i64 ((stF L G (fnd L G num (M-1))).2:Nat)]]):=by
 obtain⟨q,hq⟩:∃q,M-1=q:=⟨_,rfl⟩;have ac:(M:Int)-1=(q:Int):=by omega
 have aa:(M:Int)<=30:=by omega
 have ab:(num:Int)<=1000:=by omega
 rw[hq]at l ⊢;have Q:=af (fun k (t:k<=q) W=>zG L G M k W O N r (a0z (Nat.div_le_div_right t) l) (by omega));have V:=af (fun k (t:k<=q)=>qd (L:=L) (G:=G) (k:=k) O N r (a0z (Nat.div_le_div_right t) l));have U:Hid ((stF L G 0).1=L):=by show _=_;unfold stF;rw[a0d (by omega)];simp
 have Z:=af z;have x:Hid (((w.alloc (.cells #[.int .i64 (L:Nat),.int .i64 (G:Nat),.int .i64 (M:Nat)] 216)).alloc (.cells #[.int .i64 0,.int .i64 0] 82)).heap[w.heap.size]?=some (Obj.cells #[.int .i64 (L:Nat),.int .i64 (G:Nat),.int .i64 (M:Nat)] 216)):=(a1f _ _ _ (by simp)).trans (alloc_at _ _);have y:Hid (((w.alloc (.cells #[.int .i64 (L:Nat),.int .i64 (G:Nat),.int .i64 (M:Nat)] 216)).alloc (.cells #[.int .i64 0,.int .i64 0] 82)).heap[w.heap.size+1]?=some (Obj.cells #[.int .i64 0,.int .i64 0] 82)):=by
  have e:(w.alloc (.cells #[.int .i64 (L:Nat),.int .i64 (G:Nat),.int .i64 (M:Nat)] 216)).heap.size=w.heap.size+1:=by simp
  have:=alloc_at (w.alloc (.cells #[.int .i64 (L:Nat),.int .i64 (G:Nat),.int .i64 (M:Nat)] 216)) (.cells #[.int .i64 0,.int .i64 0] 82);rw[e]at this;exact this
 have H:Hid (Below w.heap.size w ((w.alloc (.cells #[.int .i64 (L:Nat),.int .i64 (G:Nat),.int .i64 (M:Nat)] 216)).alloc (.cells #[.int .i64 0,.int .i64 0] 82))):=((a0c _ w).alloc (a0a _) _).alloc (by simp) _;clear O N r P hM l z hn hq;go_enter func161,ntmps161;go_wp2_with fail;refine(ae Q q (a0a _) _).mono ?_;rintro e x1 ⟨rfl,a⟩;have m:Hid (x1.heap[w.heap.size]?=some (Obj.cells #[.int .i64 (L:Nat),.int .i64 (G:Nat),.int .i64 (M:Nat)] 216)):=(a.block _ (dn (ae x))).trans (ae x);have o:Hid (x1.heap[w.heap.size+1]?=some (Obj.cells #[.int .i64 0,.int .i64 0] 82)):=(a.block _ (dn (ae y))).trans (ae y);have I:=af (ap (ae H) a);clear a;go_wp2_with fail
 go_loopw [6,7,8] (fun s f b wr=>∃k:Nat,k<=q/\s = .int .i64 k/\f = .int .i64 ((stF L G k).1:Nat)/\b = .int .i64 ((stF L G k).2:Nat)/\fnd L G num q=fnd L G num k/\Below x1.heap.size x1 wr) (fun s _ _ _=>(intOf s).toNat)
 case atStart=>exact⟨q,a0a _,rfl,rfl,rfl,rfl,a0c _ _⟩
 case round=>
  obtain⟨k,t,rfl,rfl,rfl,R,g⟩:=hrel;have D:=af R;obtain⟨a,d⟩:=ae V k t;have n:=(g.block _ (dn (ae m))).trans (ae m);have h:=(g.block _ (dn (ae o))).trans (ae o);obtain⟨c0,c1,c2,_⟩:=om n;obtain⟨d0,d1,_⟩:=df h;obtain⟨f0,f1⟩:=mx h;have K:=af (ap (ae I) g);clear R;by_cases i:num<(stF L G k).1
  .
   obtain⟨j,rfl⟩:∃j,k=j+1:=by
    cases k with
    | zero=>rw[ae U]at i;have:=ae Z;omega
    | succ j=>exact⟨j,rfl⟩
   have A:=af (Gu i);have c:(num:Int)<((stF L G (j+1)).1:Int):=by omega
   have S:j<=q:=by omega
   have Y:=af (ae Q j S);obtain⟨u,hu⟩:∃u:Nat,j+1=u:=⟨_,rfl⟩;have ad:(u:Int)-1=(j:Int):=by omega
   rw[hu]at c A D a d ⊢;generalize stF L G u=E at *
   obtain⟨E1,E2⟩:=E;simp only at c a d ⊢;have T:(u:Int)<=31:=by omega
   clear i hu a d t;go_wp2_with fail;refine(ae Y _).mono ?_;rintro e x2 ⟨rfl,d⟩;go_wp2;go_roundw
   case rel=>exact⟨j,S,by go_num,rfl,rfl,by rw[ae D,ae A],ap g d⟩
   case measure=>simp[intOf];omega
  .
   have C:=af (Gv i);have c:((stF L G k).1:Int)<=(num:Int):=by omega
   have F:Hid (fnd L G num q=k):=by show _=_;rw[ae D,ae C]
   obtain⟨E1,E2,hE⟩:∃E1 E2,stF L G k=(E1,E2):=⟨_,_,rfl⟩;have X:=af hE;rw[hE]at c a d ⊢;simp only at c a d ⊢;have B:=af (pG h (.int .i64 ((num:Int)-(E1:Int))) (.int .i64 (E2:Nat)));have J:Hid (Below w.heap.size w ((wr.setCell ⟨w.heap.size+1,0,none⟩ (.int .i64 ((num:Int)-(E1:Int)))).setCell ⟨w.heap.size+1,1,none⟩ (.int .i64 (E2:Nat)))):=((ae K).setCell (p:=⟨w.heap.size+1,0,none⟩) (a01 _) _).setCell (p:=⟨w.heap.size+1,1,none⟩) (a01 _) _;clear i t D C hE n h;go_wp2;obtain⟨z0,z1,_⟩:=df (ae B);refine a0y (v:=.tuple #[.int .i64 (k:Nat),.agg #[.int .i64 ((num:Int)-(E1:Int)),.int .i64 (E2:Nat)]]) (by simp[results,results161,go_sem,z0,z1]) rfl ⟨?_,ae J⟩;rw[ae F,ae X]
structure cK (B:Nat) (w w':World):Prop where
 below:Below B w w'
 keep:∀k,k<w.heap.size->(∀cur fr,w.heap[k]?≠some (.cells cur 5 fr))->w'.heap[k]?=w.heap[k]?
theorem cK.refl(B:Nat)(w:World):cK B w w:=⟨a0c _ _,fun _ _ _=>rfl⟩
theorem cK.size(h:cK B w w'):w.heap.size<=w'.heap.size:=h.1.size
theorem cK.trans(h:cK B w w1)(k:cK B w1 w2):cK B w w2:=
 ⟨h.1.trans k.1,fun j a b=>(k.2 j (a0k a h.size) (by rw[h.2 j a b];exact b)).trans (h.2 j a b)⟩
theorem cK.alloc(h:cK B w w')(b:B<=w'.heap.size)(o:Obj):cK B w (w'.alloc o):=
 ⟨h.1.alloc b o,fun j a c=>(a1f w' o j (a0k a h.size)).trans (h.2 j a c)⟩
theorem cK.drew(h:cK B w w'):cK B w w'.drew:=⟨h.1.drew,h.2⟩
theorem cK.later{w'':World}(h:cK B w w')(hb:Below w'.heap.size w' w'')(b:B<=w'.heap.size):cK B w w'':=
 ⟨h.1.trans (hb.mono b),fun j a c=>(hb.block j (a0k a h.size)).trans (h.2 j a c)⟩
theorem gZ{y:World}{o:Obj}{size base:Nat}(f:(y.alloc o).grownBy y' v.ownBlock)(k:y.ownsRow base 5 size v n xs)(b:B<=base)(m:B<=y.heap.size)(hb:cK B x y):cK B x y':=by
 refine⟨aG f k b m hb.1,fun j h i=>?_⟩;have a:=hb.2 j h i;have d:j<y.heap.size:=a0k h hb.size;rw[f.block j (by simp;omega) ?_,a1f y o j d]
 . exact a
 .
  intro e;rcases k.2 with⟨rfl,_⟩|⟨g,cap,l,rfl,_,c,_⟩
  . cases e
  . simp only[Value.ownBlock,a0i]at e;subst e;rw[c]at a;exact i _ _ a.symm
theorem BP{base size:Nat}(h:w.ownsRow base 5 size v n xs):∀g,v.ownBlock=some g->∃a fr,w.heap[g]?=some (.cells a 5 fr):=by
 intro g e;rcases h.2 with⟨rfl,_⟩|⟨g',cap,a,rfl,_,b,_⟩
 . cases e
 . simp only[Value.ownBlock,a0i]at e;subst e;exact⟨_,_,b⟩
theorem cK.grown{y:World}{row:Option Nat}(h:cK B x y)(c:y.grownBy y' row)(i:B<=y.heap.size)(k:∀g,row=some g->B<=g)(l:∀g,row=some g->∃a fr,y.heap[g]?=some (.cells a 5 fr)):cK B x y':=by
 refine⟨h.1.grown c i k,fun j d f=>?_⟩;have b:=h.2 j d f;rw[c.block j (a0k d h.size) ?_]
 . exact b
 . intro e;obtain⟨a,fr,h2⟩:=l j e.symm;rw[h2]at b;exact f _ _ b.symm
theorem mS(w:World) :
  CD 160 #[] w (.agg #[.int .i64 3,.int .i64 4,.int .i64 28]):=by
 go_enter func160,ntmps160;go_wp2;refine a0y (v:=.agg #[.int .i64 3,.int .i64 4,.int .i64 28]) (by simp[results,results160,go_sem]) rfl ⟨rfl,(a0c _ w).alloc (a0a _) _⟩
theorem mO(w:World) :
  CD 162 #[] w (.agg #[.int .i64 1,.int .i64 2,.int .i64 30]):=by
 go_enter func162,ntmps162;go_wp2;refine a0y (v:=.agg #[.int .i64 1,.int .i64 2,.int .i64 30]) (by simp[results,results162,go_sem]) rfl ⟨rfl,(a0c _ w).alloc (a0a _) _⟩
theorem vT(num:Nat)(w:World)(a:3<=num)(b:num<=60) :
  CD 161 #[.agg #[.int .i64 3,.int .i64 4,.int .i64 28],.int .i64 (num:Nat)] w (.tuple #[.int .i64 (fnd 3 4 num 27:Nat),.agg #[.int .i64 ((num:Int)-((stF 3 4 (fnd 3 4 num 27)).1:Int)),.int .i64 ((stF 3 4 (fnd 3 4 num 27)).2:Nat)]]):=
 xP 3 4 28 num w (by omega) (by omega) (by omega) (by omega) (by omega) (by decide) a (by omega)
theorem vS(num:Nat)(w:World)(a:1<=num)(b:num<=250) :
  CD 161 #[.agg #[.int .i64 1,.int .i64 2,.int .i64 30],.int .i64 (num:Nat)] w (.tuple #[.int .i64 (fnd 1 2 num 29:Nat),.agg #[.int .i64 ((num:Int)-((stF 1 2 (fnd 1 2 num 29)).1:Int)),.int .i64 ((stF 1 2 (fnd 1 2 num 29)).2:Nat)]]):=
 xP 1 2 30 num w (by omega) (by omega) (by omega) (by omega) (by omega) (by decide) a (by omega)
def tI(l:List ByteArray):List Value:=l.map Value.string
def dy(w:World)(base:Nat)(v:Value)(l:List ByteArray):Prop:=w.ownsRow base 9 1 v l.length (tI l)
theorem dy.form{base:Nat}{l:List ByteArray}(h:dy w base v l):∃a cap,v = .slice a l.length cap:=by
 rcases h.2 with⟨e,b⟩|⟨g,cap,_,e,_⟩
 . exact⟨none,0,by rw[e,b]⟩
 . exact⟨_,cap,e⟩
theorem dy.formN{base:Nat}{l:List ByteArray}(b:l.length=n)(h:dy w base v l):∃a cap,v = .slice a n cap:=by
 subst b;exact h.form
theorem dy.own{base:Nat}{l:List ByteArray}(a:l.length=n)(h:dy w base v l):w.ownsRow base 9 1 v n (tI l):=by
 subst a;exact h
theorem dy.at{base:Nat}{cap:Nat}{l:List ByteArray}(f:l.length=n)(h:dy w base (.slice a n cap) l)(i:0<n) :
  ∃g,a=some ⟨g,0,none⟩/\g<w.heap.size/\∀j,j<n->w.cell? ⟨g,j,none⟩=some (.string (l.getD j ByteArray.empty)):=by
 subst f;rcases h.2 with⟨_,e⟩|⟨g,b,c,e,_⟩
 . omega
 . simp only[a0K]at e;obtain⟨rfl,_,rfl⟩:=e;refine⟨g,rfl,(a0C h g rfl).2,fun j d=>?_⟩;rw[a07 h j (by omega)];simp[tI,d,List.getD]
theorem dy.lit(w:World)(base:Nat)(hb:base<=w.heap.size):dy (w.alloc (.cells #[] 9)) base (.slice (some ⟨w.heap.size,0,none⟩) 0 0) []:=a04 w #[] 0 hb (by unfold maxLen;omega) rfl
theorem kf{base:Nat}{l:List ByteArray}{b:ByteArray}(a:l.length=n)(h:x.ownsRow base 9 1 v (n+1) (tI l++[.string b])):dy x base v (l++[b]):=by
 subst a;show World.ownsRow _ _ _ _ _ (l++[b]).length _;simpa[tI]using h
theorem Tryz.infoStr:(prog.info? 9).map (fun i=>(i.zero,i.size,i.bytes))=some (some (.string ByteArray.empty),1,16):=by kernel_rfl
theorem Do(x:ByteArray):∀u∈[Value.string x],u.oneCell'=true:=by
 intro u a;simp at a;subst a;rfl
theorem AF(s:ByteArray)(w:World):∃(c:Nat) (x:World) (cs:Array Value) (f:Nat×Nat),(convert 9 22 (.string s)).run prog w = .ok (.slice (some ⟨w.heap.size,0,none⟩) s.size c) x/\Below w.heap.size w x/\x.heap[w.heap.size]?=some (.cells cs 5 f)/\∀i (h:i<s.size),cs[i]?=some (.int .u8 (s[i].toNat:Int)):=by
 refine⟨_,_,bytesRow s (grownCap w s.size 0 5),((bytesRow s (grownCap w s.size 0 5)).size,(bytesRow s (grownCap w s.size 0 5)).size+1),run_bytes_of_string w _ _ _ s a14 a0O a13,?_,?_,?_⟩
 . exact((a0c _ w).drew).alloc (by simp) _
 . exact Array.getElem?_push_size
 . intro i h;exact bytesRow_at s (grownCap w s.size 0 5) i h
theorem Fl{a:Array Value}(h:w.heap[b]?=some (.cells a t f))(c:a[i]?=some v):w.cell? ⟨b,i,none⟩=some v:=by
 unfold World.cell?;rw[h];exact c
theorem ext_list(s:ByteArray)(i j:Nat):(s.extract i j).data.toList=(s.data.toList.drop i).take (j-i):=by
 rw[ByteArray.data_extract,Array.toList_extract]
theorem rO(s t:ByteArray):(s++t).data.toList=s.data.toList++t.data.toList:=by simp
theorem yJ(s:ByteArray):s.data.toList.length=s.size:=by simp
theorem rP(s t:ByteArray):(s++t).size=s.size+t.size:=by simp
theorem DT(s t:ByteArray)(k:Nat):(s.extract 0 k++t++s.extract (k+1) s.size).data.toList=s.data.toList.take k++(t.data.toList++s.data.toList.drop (k+1)):=by
 rw[rO,rO,ext_list,ext_list,a16,a20,a0M]
 congr 2
 rw[a0F];rw[a1l,yJ];exact a0a _
def rD(s t:ByteArray):Prop:=t=s∨(∃k b,k<s.size/\t.data.toList=s.data.toList.set k b)∨(∃k,k<s.size/\t.data.toList=s.data.toList.take k)∨∃x,t.data.toList=s.data.toList++x
theorem F7(s:ByteArray)(k:Nat)(a:k<s.size)(y:UInt8):rD s (s.extract 0 k++(⟨[y].toArray⟩:ByteArray)++s.extract (k+1) s.size):=by
 refine .inr (.inl ⟨k,y,a,?_⟩);rw[DT,List.set_eq_take_append_cons_drop,a0d (by rw[yJ];exact a)];rfl
theorem F6(s:ByteArray)(k:Nat)(a:k<s.size):rD s (s.extract 0 k):=.inr (.inr (.inl ⟨k,a,by rw[ext_list,a16,a20]⟩))
theorem F5(s x:ByteArray):rD s (s++x):=.inr (.inr (.inr ⟨x.data.toList,rO s x⟩))
theorem pd(s:ByteArray):rD s s:=.inl rfl
theorem Av(x:World)(n:Nat)(c:n<256) :
  (convert 22 9 (.slice (some ⟨x.heap.size,0,none⟩) 1 1)).run prog (x.alloc (.cells #[.int .u8 (n:Int)] 5)) =
   .ok (.string ⟨[UInt8.ofNat n].toArray⟩) (x.alloc (.cells #[.int .u8 (n:Int)] 5)):=by
 refine a3z _ _ _ 5 ⟨x.heap.size,0,none⟩ 1 [UInt8.ofNat n] a0O a13 a14 (fun j b=>?_);have a:j=0:=by simpa using b
 subst a;have e:((UInt8.ofNat n).toNat:Int)=(n:Int):=by
  rw[UInt8.toNat_ofNat'];omega
 rw[←e];simp[Addr.add]
def four(a b c d:ByteArray):Nat->ByteArray
 | 0=>a | 1=>b | 2=>c|_=>d
def seven(a b c d e f g:ByteArray):Nat->ByteArray
 | 0=>a | 1=>b | 2=>c | 3=>d | 4=>e | 5=>f|_=>g
theorem xY(w:World)(a b c d:ByteArray)(t:TypeId):∀i,i<4->(w.alloc (.cells #[.string a,.string b,.string c,.string d] t)).cell? ⟨w.heap.size,0+i,none⟩=some (.string (four a b c d i)):=by
 intro i e
 match i,e with
 | 0,_=>simp[four]
 | 1,_=>simp[four]
 | 2,_=>simp[four]
 | 3,_=>simp[four]
theorem zy(w:World)(a b c d e f g:ByteArray)(t:TypeId):∀i,i<7->(w.alloc (.cells #[.string a,.string b,.string c,.string d,.string e,.string f,.string g] t)).cell? ⟨w.heap.size,0+i,none⟩=some (.string (seven a b c d e f g i)):=by
 intro i h
 match i,h with
 | 0,_=>simp[seven]
 | 1,_=>simp[seven]
 | 2,_=>simp[seven]
 | 3,_=>simp[seven]
 | 4,_=>simp[seven]
 | 5,_=>simp[seven]
 | 6,_=>simp[seven]
theorem Ek{a b c d:ByteArray}(e:a.size<=n)(hb:b.size<=n)(f:c.size<=n)(hd:d.size<=n)(i:Nat):(four a b c d i).size<=n:=by
 match i with
 | 0=>exact e
 | 1=>exact hb
 | 2=>exact f
 | _+3=>exact hd
theorem Cb{a b c d e f g:ByteArray}(h:a.size<=n)(hb:b.size<=n)(j:c.size<=n)(hd:d.size<=n)(k:e.size<=n)(l:f.size<=n)(m:g.size<=n)(i:Nat):(seven a b c d e f g i).size<=n:=by
 match i with
 | 0=>exact h
 | 1=>exact hb
 | 2=>exact j
 | 3=>exact hd
 | 4=>exact k
 | 5=>exact l
 | _+6=>exact m
theorem of_le(B b m lb lo n cap M:Nat)(v:Nat->ByteArray)(w:World)(h:Rd w B b m)(f:m<=100000)(n1:0<n)(n2:n<=70000)(a:lb≠b)(c:∀i,i<n->w.cell? ⟨lb,lo+i,none⟩=some (.string (v i)))(k:∀i,(v i).size<=M) :
  Calls prog 21 #[.pointer (some ⟨b,0,none⟩),.slice (some ⟨lb,lo,none⟩) n cap] w fun e w'=>∃t:ByteArray,t.size<=M/\e = .returned (.string t)/\Rd w' B b (m+1)/\lp b w w':=by
 refine(LF B b m lb lo n cap v w h f n1 n2 a c).mono ?_;rintro e w' ⟨i,_,d,j,g⟩;exact⟨v i,k i,d,j,g⟩
theorem Az{cap:Nat}{l:List UInt8}{base:Nat}(h:w.ownsRow base 5 1 (.slice (some ⟨g,0,none⟩) l.length cap) l.length (l.map fun x=>Value.int .u8 (x.toNat:Int))) :
  (convert 22 9 (.slice (some ⟨g,0,none⟩) l.length cap)).run prog w = .ok (.string ⟨l.toArray⟩) w:=
 a3z w _ _ _ ⟨g,0,none⟩ cap l a0O a13 a14 (fun j a=>by
  have:=h.cells (g:=g) rfl j (.int .u8 (l[j].toNat:Int)) (by simp[a]);exact this)
theorem Tryz.infoByte:(prog.info? 5).map (fun i=>(i.zero,i.size,i.bytes))=some (some (.int .u8 0),1,1):=by kernel_rfl
theorem byte_of(r:Int)(a:0<=r)(b:r<256):∃x:UInt8,(x.toNat:Int)=r:=by
 obtain⟨k,rfl⟩:=a0n a;refine⟨UInt8.ofNat k,?_⟩;have:k%256=k:=a1c (by omega);simp[this]
theorem GQ{a: World}{row : Option Nat}(h : Kn b a w)(c : w.grownBy w' row)(g : ∀j, row = some j -> a.heap.size <= j)(hb : b < a.heap.size) : Kn b a w' :=
  ⟨h.1.grown c (a0z (a0s hb) h.2.2) (fun j i => a0z (a0s hb) (g j i)),
   fun k f d => (c.block k (a0k f h.2.2) (fun e => by have := g k e.symm;omega)).trans (h.2.1 k f d),
   a0z h.2.2 c.size⟩
theorem wl(B b m:Nat)(w:World)(h:Rd w B b m)(hm:m<=90000) :
  Calls prog 26 #[.pointer (some ⟨b,0,none⟩)] w fun e w'=>(∃s:ByteArray,e = .returned (.string s)/\s.size<=400)/\Rd w' B b (m+50)/\Kn b w w':=by
 obtain⟨i0,hi,W,X,Y⟩:=a0t Tryz.infoByte;have J:=h.lt;go_enter func26,ntmps26;go_wp2_with fail;refine(cP B b m _ _ h (by omega) (by omega) (by omega)).mono ?_;rintro e w1 ⟨r,rfl,r0,r1,d,a⟩;have F:=d.lt;by_cases R:r=0
 . subst R;go_wp2;go_ret;exact⟨⟨_,rfl,by decide⟩,d.mono (by omega),a.kn⟩
 have g0:(r == 0)=false:=by simpa using R
 by_cases S:r=1
 . subst S;clear R g0;go_wp2_with fail;refine(of_le B b (m+1) w1.heap.size 0 4 4 6 _ _ (d.alloc _) (by omega) (by omega) (by omega) (a1w F) (xY w1 _ _ _ _ _) (Ek (by decide) (by decide) (by decide) (by decide))).mono ?_;rintro e w2 ⟨t0,Q,rfl,p,c⟩;go_wp2_with fail;refine(cP B b (m+2) _ _ p (by omega) (by omega) (by omega)).mono ?_;rintro e w3 ⟨r',rfl,K,Z,v,i⟩;go_wp2_with fail;refine(sG _ _ _ (by omega) (by omega) (by omega)).mono ?_;rintro e w4 ⟨⟨t,rfl,ht⟩,rfl⟩;go_wp2;go_ret;refine⟨⟨t,rfl,?_⟩,v.mono (by omega),((a.kn.trans (jZ w1 _ F)).trans c.kn).trans i.kn⟩;rw[ht];have:=a2e Q (show(1+r').toNat<=40 by omega);omega
 have g1:(r == 1)=false:=by simpa using S
 by_cases h2:r=2
 .
  subst h2;clear R S g0 g1;go_wp2_with fail;refine(cP B b (m+1) _ _ (d.alloc _) (by omega) (by omega) (by omega)).mono ?_;rintro e w2 ⟨r',rfl,K,Z,p,c⟩;obtain⟨n0,rfl⟩:=a0n K;have H:w2.ownsRow w.heap.size 5 1 (.slice (some ⟨w1.heap.size,0,none⟩) 0 0) 0 []:=
   uZ (a04 w1 #[] 0 a.kn.2.2 (by unfold maxLen;omega) rfl) c J
  have f:=(a.kn.trans (jZ w1 (.cells #[] 5) F)).trans c.kn;go_wp2_with fail
  go_loopw [3,4] (fun o n wr=>∃(l:List UInt8) (k:Nat),n = .int .i64 k/\k<=39/\l.length+k<=39/\o ≠ .slice none 0 0/\wr.ownsRow w.heap.size 5 1 o l.length (l.map fun x=>Value.int .u8 (x.toNat:Int))/\Rd wr B b (m+42-k)/\Kn b w wr) (fun _ n _=>(intOf n).toNat)
  case atStart=>exact⟨[],n0,rfl,by omega,by simp;omega,by simp,H,p.mono (by omega),f⟩
  case round=>
   obtain⟨l,k,rfl,hk,T,ad,E,z,y⟩:=hrel;have G:=z.lt;have ac:(k:Int)<=39:=by omega
   have HL:=af T;clear hk T d p a c f H;by_cases hp:(0:Int)<(k:Int)
   .
    go_wp2_with fail;refine(cP B b (m+42-k) _ _ z (by omega) (by omega) (by omega)).mono ?_;rintro e w3 ⟨q,rfl,q0,q1,v,i⟩;obtain⟨x,rfl⟩:=byte_of q q0 q1;have D:=uZ E i J;have L:∀j,u3.ownBlock=some j->w.heap.size<=j:=fun j M=>(D.lt j M).1;have U:=v.lt;have A:=y.trans i.kn;clear E z i;go_wp2_with (at_builtin;refine a0x _ rfl _ _ 22 rfl w.heap.size 5 i0 (.int .u8 0) 1 1 a0O hi W X Y rfl (by decide) _ _ _ rfl (D.alloc _) ⟨w3.heap.size,0,none⟩ 1 1 [.int .u8 (x.toNat:Int)] rfl rfl ?c1 ?c2 ?c3 ?c4 ?c5 ?_)
    case c1=>
     intro j u M
     match j,M with
     | 0,M=>simp at M;subst M;simp[Addr.add]
    case c2=>intro u hu;simp at hu;subst hu;rfl
    case c3=>have:=ae HL;unfold maxLen;omega
    case c4=>have:=ae HL;omega
    case c5=>have:=A.2.2;simp;omega
    intro v' w4 I C N;have aa:Rd w4 B b (m+42-k+1):=(v.alloc _).grown C (fun j M=>a0k J (L j M));have O:Kn b w w4:=GQ (A.trans (jZ w3 _ U)) C L J;have V:v' ≠ .slice none 0 0:=N;have P:w4.ownsRow w.heap.size 5 1 v' (l++[x]).length ((l++[x]).map fun x=>Value.int .u8 (x.toNat:Int)):=by simpa using I
    clear I C D v A N;go_wp2;go_roundw
    case rel=>exact⟨l++[x],k-1,by go_num,by omega,by have:=ae HL;simp;omega,V,P,aa.mono (by omega),O⟩
    case measure=>simp[intOf];omega
   .
    obtain⟨g,cap,rfl⟩:∃g cap,u3 = .slice (some ⟨g,0,none⟩) l.length cap:=by
     rcases E.2 with⟨e,_⟩|⟨g,cap,_,e,_⟩
     . exact absurd e ad
     . exact⟨g,cap,e⟩
    have ab:=Az E;go_wp2;go_ret;exact⟨⟨_,rfl,by have:=ae HL;simp[ByteArray.size];omega⟩,z.mono (by omega),y⟩
 have g2:(r == 2)=false:=by simpa using h2
 by_cases h3:r=3
 . subst h3;clear R S h2 g0 g1 g2;go_wp2_with (go_at_call 51;refine(sG _ _ _ (by omega) (by omega) (by decide)).mono ?_;rintro e w' ⟨⟨t,rfl,ht⟩,rfl⟩);go_ret;exact⟨⟨t,rfl,by rw[ht];decide⟩,d.mono (by omega),a.kn⟩
 have g3:(r == 3)=false:=by simpa using h3
 clear R S h2 h3;go_wp2_with fail;refine(cP B b (m+1) _ _ d (by omega) (by omega) (by omega)).mono ?_;rintro e w2 ⟨r',rfl,K,Z,p,c⟩;obtain⟨n0,rfl⟩:=a0n K;have f:=a.kn.trans c.kn;go_wp2_with fail
 go_loopw [5,6] (fun o n wr=>∃(s:ByteArray) (k:Nat),o = .string s/\n = .int .i64 k/\k<=11/\s.size+6*k<=66/\Rd wr B b (m+20-k)/\Kn b w wr) (fun _ n _=>(intOf n).toNat)
 case atStart=>exact⟨ByteArray.empty,n0,rfl,rfl,by omega,by show 0+6*n0<=66;omega,p.mono (by omega),f⟩
 case round=>
  obtain⟨s,k,rfl,rfl,hk,Q,z,y⟩:=hrel;have G:=z.lt;have ac:(k:Int)<=11:=by omega
  have al:(s.size:Int)+6*k<=66:=by omega
  have HK:=af hk;clear hk Q d p a c f hi W X Y;by_cases hp:(0:Int)<(k:Int)
  .
   go_wp2_with fail;refine(of_le B b (m+20-k) wr.heap.size 0 7 7 6 _ _ (z.alloc _) (by omega) (by omega) (by omega) (a1w G) (zy wr _ _ _ _ _ _ _ _) (Cb (by decide) (by decide) (by decide) (by decide) (by decide) (by decide) (by decide))).mono ?_;rintro e w3 ⟨t0,an,rfl,v,i⟩;go_wp2;go_roundw
   case rel=>exact⟨s++t0,k-1,rfl,by go_num,by omega,by rw[a0U];omega,v.mono (by omega),(y.trans (jZ wr _ G)).trans i.kn⟩
   case measure=>simp[intOf];omega
  . go_wp2;go_ret;exact⟨⟨s,rfl,by omega⟩,z.mono (by omega),y⟩
theorem Km(l:List Int)(N d:Nat):nx l N*p2 d<=nx l (N+d):=by
 induction d with
 | zero=>simp[p2]
 | succ d ih=>
  have:nx l (N+d+1)=2*nx l (N+d)+many l (((N+d:Nat):Int)+1) l.length:=rfl;rw[jq,←a1C,←a1T,this];omega
end Go.Proofs.YtggknepmhjfohaaGreatDoor
