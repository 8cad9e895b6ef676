/- Of what the proof is made: 20 texts, one behind the other. -/
import Derived.Test.YtchidddpplangaaGreatDoorM7
import Derived.Lib.AppendZerosOnto
import Derived.Test.YtchidddpplangaaGreatDoorM8
import Derived.Test.YtchidddpplangaaGreatDoorM6
import Derived.Laws.IdiomStrings
import Derived.Laws.OwnMore
import Derived.Deep.RegionWith
set_option maxRecDepth 100000
set_option linter.unusedSimpArgs false
set_option linter.unusedVariables false
set_option maxHeartbeats 3200000
namespace Go.Proofs.YtchidddpplangaaGreatDoor
open Go.Proofs.Tryz
open Go.RowKit Go.Lib
variable {P:Program}
theorem lz(z:Value)(k:Nat):Builtin.zeroCells #[z] k=(List.replicate k z).toArray:=by
 unfold Builtin.zeroCells;apply Array.ext';simp only[a2E,a1n,a1j,Nat.mul_one];simp;rw[List.map_const',List.length_range]
theorem lG(w:World)(t tn ty e:TypeId)(i:TypeInfo)(z:Value)(C B:IntKind)(v:P.underlying t=some (.slice e))(j:P.underlying tn=some (.int B))(q:P.info? e=some i)(A:i.zero=some z)
  (g sLen sCap:Nat) (a:Array Value) (p:w.heap[g]?=some (.cells a e (0,0))) (k:Nat) (D:0<k) (s:i.size=1) (l:z.cells=#[z]) (m:z.oneCell'=true)
  (b:sLen+k<=sCap) (d:sLen+k<=a.size) (o:(k:Int)<=9223372036854775807) (n:k*i.bytes<=281474976710656) :
  (Builtin.append_ #[t,tn] ty #[.slice (some ⟨g,0,none⟩) sLen sCap,.int C k]).run P w =
   .ok (.slice (some ⟨g,0,none⟩) (sLen+k) sCap) (w.setRow g (a.toList.take sLen++List.replicate k z++a.toList.drop (sLen+k)).toArray):=by
 have r:k≠0:=by omega
 have y:IntKind.i64.wrap (k:Int)=k:=by rw[a0X];omega
 have c:¬ (281474976710656<(k:Int)*(i.bytes:Int)):=by
  rw[←a1x];omega
 have f:¬ ((k:Int)<0):=by omega
 have h:=run_storeCells_at P g sLen e (List.replicate k z) 0 a w p (by simpa using d) (by intro u x;rw[List.eq_of_mem_replicate x];exact m);simp only[a1w,a0A]at h;simp[Builtin.append_,a1T v,a1T j,sizeOf,typeInfo,zeroValue,q,A,asInt,asIntOf,y,f,c,s,r,b,l,lz,Addr.add_lit,h]
theorem mr(w:World)(base:Nat)(t tn ty e:TypeId)(i:TypeInfo)(z:Value)(bytes:Nat)(B A:IntKind)(H:P.underlying t=some (.slice e))(q:P.underlying tn=some (.int A))(G:P.info? e=some i)(J:i.zero=some z)
  (L:i.size=1) (E:i.bytes=bytes) (r:z.cells=#[z]) (M:z.oneCell'=true) (v:Value) (n:Nat) (xs:List Value) (a:w.ownsRow base e 1 v n xs) (k:Nat) (C:0<k)
  (s:n+k<=maxLen) (b:(n+k)*bytes<=140737488355328) (l:base<=w.heap.size) :
  ∃v' w',(Builtin.append_ #[t,tn] ty #[v,.int B k]).run P w = .ok v' w'/\w'.ownsRow base e 1 v' (n+k) (xs++List.replicate k z)/\w.grownBy w' v.ownBlock:=by
 subst E;have y:n+k<=9223372036854775807:=by simp only[maxLen]at s;omega
 have c:(xs++List.replicate k z).length=(n+k)*1:=by rw[a0k,a.1,a0A];omega
 have o:k*i.bytes<=281474976710656:=by
  have:k*i.bytes<=(n+k)*i.bytes:=a16 _ (by omega);omega
 have grown:∀(old:Nat),old<n+k->∀(row:Option Nat),
   (w.drew.alloc (.cells (xs.toArray++Builtin.zeroCells z.cells k++Builtin.zeroCells z.cells (grownCap w (n+k) old e-(n+k))) e)).ownsRow base e 1
    (.slice (some ⟨w.heap.size,0,none⟩) (n+k) (grownCap w (n+k) old e)) (n+k) (xs++List.replicate k z) /\
   w.grownBy (w.drew.alloc (.cells (xs.toArray++Builtin.zeroCells z.cells k++Builtin.zeroCells z.cells (grownCap w (n+k) old e-(n+k))) e)) row:=by
  intro old T row;have F:=grownCap_ge w (n+k) old e;have m:grownCap w (n+k) old e<=maxLen:=grownCap_le_maxLen w (n+k) old e s;refine⟨⟨c,.inr ⟨w.heap.size,_,_,rfl,l,heap_alloc_new w.drew _,F,m,?_,?_⟩⟩,⟨rfl,rfl,rfl,by simp,fun j O _=>a1i w.drew _ j O⟩⟩
  . have:=a.1;simp only[a2l,a2E,r,lz,a0A];omega
  . rw[r,lz,lz];simp only[a1K,a0L];rw[←a0L,←c];exact List.take_left
 rcases a.2 with⟨rfl,rfl⟩|⟨g,cap,h,rfl,D,K,R,m,N,p⟩
 . have S:xs=[]:=a2k (by simpa using a.1);subst S;have x:=run_append_grow_zeros (P:=P) w t tn ty e i z B A H q G J none 0 0 [] (run_firstCells_none w.drew i.size 0 0 0) k C (by omega) (by omega) (by omega) o (a3B (by omega) (by simpa using b));have d:=grown 0 (by omega) (Value.ownBlock (.slice none 0 0));exact⟨_,_,x,d.1,d.2⟩
 .
  by_cases f:n+k<=cap
  .
   have x:=lG (P:=P) w t tn ty e i z B A H q G J g n cap h K k C L r M f (by omega) (by omega) o;refine⟨_,_,x,⟨c,.inr ⟨g,cap,_,rfl,D,setRow_heap w g h _ e _ K,f,m,?_,?_⟩⟩,⟨rfl,rfl,rfl,by simp,fun k _ Q=>setRow_other w g k _ (fun e=>Q (by simp[Value.ownBlock,e]))⟩⟩
   . simp only[a2E,a0k,a0v,a1b,a1W,a0A];omega
   .
    have I:h.toList.take n=xs:=by simpa using p
    rw[I,←c];exact List.take_left
  . have holds:∀j u,xs[j]?=some u->w.drew.cell? ((⟨g,0,none⟩:Addr).add j)=some u:=a.cells (g:=g) rfl;have x:=run_append_grow_zeros (P:=P) w t tn ty e i z B A H q G J (some ⟨g,0,none⟩) n cap xs (run_firstCells_some (P:=P) w.drew i.size n ⟨g,0,none⟩ n cap xs (by rw[L];exact a.1) holds) k C (by omega) (by omega) (by omega) o (a3B (by omega) b);have d:=grown cap (by omega) (Value.ownBlock (.slice (some ⟨g,0,none⟩) n cap));exact⟨_,_,x,d.1,d.2⟩
theorem iM(w:World){ops:Array Oper}{rest:List Oper}{o:Oper}{a:Act}{Q:Exit->Act->World->Prop}(j:o.guard=none)(s x:Operand)(t tn:TypeId)
  (D:o.op = .call { callee:=.builtin .append,args:=#[s,x],argTypes:=#[t,tn] })
  (base:Nat) (e:TypeId) (i:TypeInfo) (z:Value) (bytes:Nat) (r q:IntKind) (G:P.underlying t=some (.slice e)) (m:P.underlying tn=some (.int q)) (C:P.info? e=some i) (I:i.zero=some z)
  (l:i.size=1) (g:i.bytes=bytes) (p:z.cells=#[z]) (y:z.oneCell'=true) (v:Value) (n:Nat) (xs:List Value) (F:a.eval s=v) (d:w.ownsRow base e 1 v n xs) (k:Nat) (H:a.eval x = .int r (k:Int)) (u:0<k)
  (f:n+k<=maxLen) (b:(n+k)*bytes<=140737488355328) (c:base<=w.heap.size)
  (h:∀v' w',w'.ownsRow base e 1 v' (n+k) (xs++List.replicate k z)->w.grownBy w' v.ownBlock->wpList P ops Q rest (a.put o.dst v') w'):wpList P ops Q (o :: rest) a w:=by
 obtain⟨v',w',E,h2,A⟩:=mr (P:=P) w base t tn o.type e i z bytes r q G m C I l g p y v n xs d k u f b c;refine wpList_plain j fun _ B=>?_;unfold Oper.wp execOp;simp only[D,resolve,invoke,builtin,a2F,a3C,Result.andThen_ok,List.map_toArray,a0H,a19,F,H,E];exact B _ _ (h v' w' h2 A)
end Go.Proofs.YtchidddpplangaaGreatDoor
namespace Go.Proofs.YtchidddpplangaaGreatDoor
open Go.Proofs.Tryz
open Go.RowKit
variable {B G L b g i j k n o:Nat}{a:Option Addr}{f:Nat×Nat}{l:List Int}{m:Nat->Nat}{t t':TypeId}{v vc vl vs y:Value}{w w' w1 x:World}{xs:List Value}
theorem Tryz.infoInt:(prog.info? 3).map (fun i=>(i.zero,i.size,i.bytes))=some (some (.int .i64 0),1,8):=by kernel_rfl
theorem bX(l:List Int)(k:Nat)(h:k<l.length):l.take (k+1)=l.take k++[l.getD k 0]:=by
 rw[a1e h]
 congr 1
 simp[List.getD,h]
def aY(w:World)(a:Option Addr)(l:List Int):Prop:=
 0<l.length->∃g o,a=some ⟨g,o,none⟩/\g<w.heap.size/\∀i,i<l.length->w.cell? ⟨g,o+i,none⟩=some (.int .i64 (l.getD i 0))
theorem aY.below(h:aY w a l)(j:w.heap.size<=B)(hb:Below B w w'):aY w' a l:=by
 intro b;obtain⟨g,o,e,d,c⟩:=h b;exact⟨g,o,e,a0m d hb.size,fun i f=>by rw[←c i f];exact hb.cell (p:=⟨g,o+i,none⟩) (by show g<B;omega)⟩
theorem aY.later(h:aY w a l)(hb:Below w.heap.size w w'):aY w' a l:=h.below (a0a _) hb
def am(w:World)(base:Nat)(v:Value)(l:List Int):Prop:=w.ownsRow base 3 1 v l.length (l.map (Value.int .i64))
theorem am.form{base:Nat}(h:am w base v l):∃a cap,v = .slice a l.length cap:=by
 rcases h.2 with⟨e,b⟩|⟨g,cap,_,e,_⟩
 . exact⟨none,0,by rw[e,b]⟩
 . exact⟨_,cap,e⟩
theorem am.row{base:Nat}{cap:Nat}(h:am w base (.slice a l.length cap) l):aY w a l:=by
 intro k;rcases h.2 with⟨e,m⟩|⟨g,c,d,e,hb,f,_⟩
 . omega
 .
  simp only[a0J]at e;obtain⟨rfl,_,rfl⟩:=e;refine⟨g,0,rfl,(Array.getElem?_eq_some_iff.1 f).1,fun i j=>?_⟩;have:=a1V h (g:=g) rfl i (.int .i64 (l.getD i 0)) (by simp[List.getD,j]);have b:(⟨g,0,none⟩:Addr).add i=⟨g,i,none⟩:=by unfold Addr.add;split<;>simp_all
  rw[b]at this;rw[a0G];exact this
theorem am.later{base:Nat}(h:am w base v l)(hb:Below B w w')(e:w.heap.size<=B):am w' base v l:=by
 refine⟨h.1,?_⟩;rcases h.2 with d|⟨g,cap,b,rfl,c,a,rest⟩
 . exact .inl d
 . refine .inr ⟨g,cap,b,rfl,c,?_,rest⟩;have f:=(Array.getElem?_eq_some_iff.1 a).1;rw[hb.block g (by omega)];exact a
theorem am.lit(w:World)(base:Nat)(hb:base<=w.heap.size):am (w.alloc (.cells #[] 3)) base (.slice (some ⟨w.heap.size,0,none⟩) 0 0) []:=
 a0Y w #[] 0 hb (by unfold maxLen;omega) rfl
theorem am.nil(w:World)(base:Nat):am w base (.slice none 0 0) []:=a04 _ _ _ _
theorem mS{base:Nat}{a:Int}(h:x.ownsRow base 3 1 v (l.length+1) (l.map (Value.int .i64)++[.int .i64 a])):am x base v (l++[a]):=by
 unfold am;simpa using h
theorem am.mono{base base':Nat}(h:am w base v l)(hb:base'<=base):am w base' v l:=by
 refine⟨h.1,?_⟩;rcases h.2 with c|⟨g,cap,a,rfl,b,rest⟩
 . exact .inl c
 . exact .inr ⟨g,cap,a,rfl,by omega,rest⟩
theorem aB{y y':World}{o:Obj}{e:TypeId}{size base:Nat}(b:(y.alloc o).grownBy y' v.ownBlock)(d:y.ownsRow base e size v n xs)(a:B<=base)(f:B<=y.heap.size)(hb:Below B x y):Below B x y':=
 (hb.alloc f _).grown b (by simp;omega) (fun j c=>a0C a (a0w (d.alloc o) j c).1)
theorem am.rowN{base:Nat}{cap:Nat}(b:l.length=n)(h:am w base (.slice a n cap) l):aY w a l:=by
 subst b;exact h.row
theorem am.formN{base:Nat}(b:l.length=n)(h:am w base v l):∃a cap,v = .slice a n cap:=by
 subst b;exact h.form
theorem am.own{base:Nat}(a:l.length=n)(h:am w base v l):w.ownsRow base 3 1 v n (l.map (Value.int .i64)):=by
 subst a;exact h
theorem cY{base:Nat}{a:Int}(b:l.length=n)(h:x.ownsRow base 3 1 v (n+1) (l.map (Value.int .i64)++[.int .i64 a])):am x base v (l++[a]):=by
 subst b;exact mS h
theorem am.put{base cap:Nat}(a:l.length=n)(h:am w base (.slice (some ⟨g,0,none⟩) n cap) l)(x:Int) :
  am (w.setCell ⟨g,j,none⟩ (.int .i64 x)) base (.slice (some ⟨g,0,none⟩) n cap) (l.set j x):=by
 subst a;have:=a1X h j (.int .i64 x);show World.ownsRow _ _ _ _ _ (l.set j x).length ((l.set j x).map (Value.int .i64));rw[a1L];have e:(l.set j x).map (Value.int .i64)=(l.map (Value.int .i64)).set j (.int .i64 x):=by simp[List.map_set]
 rw[e];exact this.1
theorem am.at{base cap:Nat}(b:l.length=n)(h:am w base (.slice (some ⟨g,0,none⟩) n cap) l)(a:j<n) :
  w.cell? ⟨g,j,none⟩=some (.int .i64 (l.getD j 0))/\w.frozen? ⟨g,j,none⟩=false/\base<=g/\g<w.heap.size:=by
 subst b;refine⟨?_,a2m h j,a0w h g rfl⟩;rw[a08 h j (by omega)];simp[a,List.getD]
theorem am.somes{base cap:Nat}(h:am w base (.slice a n cap) l)(d:0<l.length):∃g,a=some ⟨g,0,none⟩:=by
 rcases h.2 with⟨_,e⟩|⟨g,b,c,e,_⟩
 . omega
 . simp only[a0J]at e;exact⟨g,e.1⟩
theorem am.below{base cap:Nat}(h:am w base (.slice (some ⟨g,0,none⟩) n cap) l):base<=g/\g<w.heap.size:=a0w h g rfl
def Touch(a:Option Addr)(w w':World):Prop:=w'.heap.size=w.heap.size/\∀j,(∀g,a=some ⟨g,0,none⟩->j≠g)->w'.heap[j]?=w.heap[j]?
theorem Touch.refl(a:Option Addr)(w:World):Touch a w w:=⟨rfl,fun _ _=>rfl⟩
theorem Touch.set(h:Touch a w w')(c:a=some ⟨g,0,none⟩)(u:Value):Touch a w (w'.setCell ⟨g,o,none⟩ u):=
 ⟨by simpa using h.1,fun j b=>(a0P w' ⟨g,o,none⟩ u j (b g c)).trans (h.2 j b)⟩
theorem am.touch{base:Nat}(h:am w base v l)(j:Touch a w w')(f:∀g,a=some ⟨g,0,none⟩->g<base):am w' base v l:=by
 refine⟨h.1,?_⟩;rcases h.2 with i|⟨g,cap,b,rfl,c,d,rest⟩
 . exact .inl i
 . refine .inr ⟨g,cap,b,rfl,c,?_,rest⟩;rw[j.2 g (fun g' e=>by have:=f g' e;omega)];exact d
theorem ow{d e e1 e2 s1 s2 n1 n2:Nat}{v1 v2:Value}{x1 x2:List Value}(h:w.ownsRow d e1 s1 v1 n1 x1)(h2:w.ownsRow e e2 s2 v2 n2 x2)(i:e1≠e2):v1.ownBlock=none∨v1.ownBlock≠v2.ownBlock:=by
 rcases h.2 with⟨rfl,_⟩|⟨g,cap,f,rfl,_,j,_⟩
 . exact .inl rfl
 .
  refine .inr ?_;rcases h2.2 with⟨rfl,_⟩|⟨g',b,c,rfl,_,a,_⟩
  . simp[Value.ownBlock]
  . simp only[Value.ownBlock,ne_eq,a0l];rintro rfl;rw[j]at a;simp only[a0l,a3D]at a;exact i a.2.1
theorem an(h:B<=w.heap.size)(o:Obj):B<=(w.alloc o).heap.size:=by simp;omega
theorem bC(W:World)(g:Nat)(b:W.heap.size=g)(x:Value)(t:TypeId):∀(j:Nat) (u:Value),[x][j]?=some u->(W.alloc (.cells #[x] t)).cell? ((⟨g,0,none⟩:Addr).add j)=some u:=by
 subst b;intro j u a
 match j,a with
 | 0,a=>simp at a;subst a;simp[Addr.add]
theorem ew(x:Int):∀u∈[Value.int .i64 x],u.oneCell'=true:=by
 intro u a;simp at a;subst a;rfl
theorem cU{base:Nat}(h:w1.ownsRow base 3 1 (.slice (some ⟨g,0,none⟩) n n) n (madeCells (Value.int .i64 0).cells (n*1)).toList):am w1 base (.slice (some ⟨g,0,none⟩) n n) (List.replicate n 0):=by
 have e:(madeCells (Value.int .i64 0).cells (n*1)).toList=(List.replicate n (0:Int)).map (Value.int .i64):=by
  apply a2G
  . simp[madeCells]
  . intro i a h2;simp[madeCells,Value.cells,a1j]
 show World.ownsRow _ _ _ _ _ (List.replicate n (0:Int)).length _;rw[a0A,←e];exact h
theorem am.setOther{base g' c:Nat}(h:am w base (.slice (some ⟨g,0,none⟩) n c) l)(i:g'≠g)(u:Value):am (w.setCell ⟨g',o,none⟩ u) base (.slice (some ⟨g,0,none⟩) n c) l:=by
 refine⟨h.1,?_⟩;rcases h.2 with f|⟨g1,cap,a,e,b,d,rest⟩
 . exact .inl f
 . refine .inr ⟨g1,cap,a,e,b,?_,rest⟩;simp only[a0J,a0l,a0B,a0O]at e;rw[a0P w ⟨g',o,none⟩ u g1 (by show g1≠g';omega)];exact d
theorem am.under{base c:Nat}(h:am w base (.slice (some ⟨g,0,none⟩) n c) l)(hb:Below B w w')(i:g<B):am w' base (.slice (some ⟨g,0,none⟩) n c) l:=by
 refine⟨h.1,?_⟩;rcases h.2 with f|⟨g1,cap,a,e,b,d,rest⟩
 . exact .inl f
 . refine .inr ⟨g1,cap,a,e,b,?_,rest⟩;simp only[a0J,a0l,a0B,a0O]at e;rw[hb.block g1 (by omega)];exact d
theorem am.setUnder{base:Nat}(h:am w base v l)(hb:b<base)(u:Value):am (w.setCell ⟨b,o,none⟩ u) base v l:=
 a23 h (a:=⟨b,o,none⟩) hb u
def cV(l:List UInt8):List Value:=l.map fun x=>Value.int .u8 (x.toNat:Int)
def aO(w:World)(base:Nat)(v:Value)(l:List UInt8):Prop:=w.ownsRow base 5 1 v l.length (cV l)
theorem aO.form{base:Nat}{l:List UInt8}(h:aO w base v l):∃a cap,v = .slice a l.length cap:=by
 rcases h.2 with⟨e,b⟩|⟨g,cap,_,e,_⟩
 . exact⟨none,0,by rw[e,b]⟩
 . exact⟨_,cap,e⟩
theorem aO.formN{base:Nat}{l:List UInt8}(b:l.length=n)(h:aO w base v l):∃a cap,v = .slice a n cap:=by
 subst b;exact h.form
theorem aO.own{base:Nat}{l:List UInt8}(a:l.length=n)(h:aO w base v l):w.ownsRow base 5 1 v n (cV l):=by
 subst a;exact h
theorem aO.later{base:Nat}{l:List UInt8}(h:aO w base v l)(hb:Below B w w')(a:w.heap.size<=B):aO w' base v l:=
 a1M h (row:=none) ⟨hb.os,hb.tape,hb.output,hb.size,fun k b _=>hb.block k (by omega)⟩ (by
  cases c:v.ownBlock with
  | none=>exact .inl rfl
  | some k=>exact .inr (by simp))
theorem aO.mono{base base':Nat}{l:List UInt8}(h:aO w base v l)(hb:base'<=base):aO w base' v l:=by
 refine⟨h.1,?_⟩;rcases h.2 with c|⟨g,cap,a,e,b,rest⟩
 . exact .inl c
 . exact .inr ⟨g,cap,a,e,a0C hb b,rest⟩
theorem aO.somes{base cap:Nat}{l:List UInt8}(h:aO w base (.slice a n cap) l)(d:0<l.length):∃g,a=some ⟨g,0,none⟩:=by
 rcases h.2 with⟨_,e⟩|⟨g,b,c,e,_⟩
 . omega
 . simp only[a0J]at e;exact⟨g,e.1⟩
theorem aO.at{base cap:Nat}{l:List UInt8}(b:l.length=n)(h:aO w base (.slice (some ⟨g,0,none⟩) n cap) l)(a:j<n) :
  w.cell? ⟨g,j,none⟩=some (.int .u8 ((l.getD j 0).toNat:Int))/\base<=g/\g<w.heap.size:=by
 subst b;refine⟨?_,a0w h g rfl⟩;rw[a08 h j (by omega)];simp[cV,a,List.getD]
theorem aO.nil(w:World)(base:Nat):aO w base (.slice none 0 0) []:=a04 _ _ _ _
theorem aO.lit(w:World)(base:Nat)(hb:base<=w.heap.size):aO (w.alloc (.cells #[] 5)) base (.slice (some ⟨w.heap.size,0,none⟩) 0 0) []:=a0Y w #[] 0 hb (by unfold maxLen;omega) rfl
theorem cf{base:Nat}{l:List UInt8}{b:UInt8}(a:l.length=n)(h:x.ownsRow base 5 1 v (n+1) (cV l++[.int .u8 (b.toNat:Int)])):aO x base v (l++[b]):=by
 subst a;show World.ownsRow _ _ _ _ _ (l++[b]).length _;simpa[cV]using h
theorem Tryz.infoU8:(prog.info? 5).map (fun i=>(i.zero,i.size,i.bytes))=some (some (.int .u8 0),1,1):=by kernel_rfl
theorem one_byte(x:Int):∀u∈[Value.int .u8 x],u.oneCell'=true:=by
 intro u a;simp at a;subst a;rfl
theorem aO.text{base:Nat}{l:List UInt8}(h:aO w base v l) :
  (convert 103 9 v).run prog w = .ok (.string ⟨l.toArray⟩) w:=by
 rcases h.2 with⟨e,b⟩|⟨g,cap,a,e,_⟩
 . have d:l=[]:=a2k b;subst d;rw[e];rw[run_convert_bytes_string w _ _ _ none 0 0 a0Q a2H a1J];rfl
 .
  rw[e];exact run_convert_bytes_back w _ _ _ ⟨g,0,none⟩ cap l a0Q a2H a1J (fun j c=>by
   have:=a1V h (g:=g) (by rw[e];rfl) j (.int .u8 (l[j].toNat:Int)) (by simp[cV,c]);exact this)
def nB(w:World)(a:Option Addr)(l:List (Int×Int)):Prop:=
 0<l.length->∃g o,a=some ⟨g,o,none⟩/\g<w.heap.size/\∀i,i<l.length->w.cell? ⟨g,o+i*2,none⟩=some (.int .i64 (l.getD i (0,0)).1)/\w.cell? ⟨g,o+i*2+1,none⟩=some (.int .i64 (l.getD i (0,0)).2)
theorem nB.later{l:List (Int×Int)}(h:nB w a l)(hb:Below w.heap.size w w'):nB w' a l:=by
 intro f;obtain⟨g,o,e,b,c⟩:=h f;refine⟨g,o,e,a0m b hb.size,fun i d=>⟨?_,?_⟩⟩
 . exact(hb.cell (p:=⟨g,o+i*2,none⟩) b).trans (c i d).1
 . exact(hb.cell (p:=⟨g,o+i*2+1,none⟩) b).trans (c i d).2
def aS:List (Int×Int)->List Value
 | []=>[]
 | p :: l=>.int .i64 p.1 :: .int .i64 p.2 :: aS l
theorem lk(l:List (Int×Int)):(aS l).length=l.length*2:=by
 induction l with
 | nil=>rfl
 | cons p l ih=>simp only[aS,a0E,ih];omega
theorem ef(l m:List (Int×Int)):aS (l++m)=aS l++aS m:=by
 induction l with
 | nil=>rfl
 | cons p l ih=>simp[aS,ih]
theorem Dj(l:List (Int×Int))(i:Nat)(h:i<l.length):(aS l)[i*2]?=some (.int .i64 (l.getD i (0,0)).1)/\(aS l)[i*2+1]?=some (.int .i64 (l.getD i (0,0)).2):=by
 induction l generalizing i with
 | nil=>simp at h
 | cons p l ih=>
  cases i with
  | zero=>simp[aS]
  | succ i=>
   have:=ih i (by simpa using h);rw[show(i+1)*2=i*2+1+1 by omega];simpa[aS]using this
def Pcs(w:World)(base:Nat)(v:Value)(l:List (Int×Int)):Prop:=w.ownsRow base 185 2 v l.length (aS l)
theorem Pcs.form{base:Nat}{l:List (Int×Int)}(h:Pcs w base v l):∃a cap,v = .slice a l.length cap:=by
 rcases h.2 with⟨e,b⟩|⟨g,cap,_,e,_⟩
 . exact⟨none,0,by rw[e,b]⟩
 . exact⟨_,cap,e⟩
theorem Pcs.row{base:Nat}{cap:Nat}{l:List (Int×Int)}(h:Pcs w base (.slice a l.length cap) l):nB w a l:=by
 intro k;rcases h.2 with⟨_,m⟩|⟨g,b,d,e,hb,f,n⟩
 . omega
 . simp only[a0J]at e;obtain⟨rfl,_,rfl⟩:=e;refine⟨g,0,rfl,(Array.getElem?_eq_some_iff.1 f).1,fun i j=>?_⟩;have c:=Dj l i j;have c1:=a08 h (i*2) (by omega);have c2:=a08 h (i*2+1) (by omega);rw[a0G];exact⟨c1.trans c.1,c2.trans c.2⟩
theorem Pcs.later{base:Nat}{l:List (Int×Int)}(h:Pcs w base v l)(hb:Below B w w')(a:w.heap.size<=B):Pcs w' base v l:=
 a1M h (row:=none) ⟨hb.os,hb.tape,hb.output,hb.size,fun k b _=>hb.block k (by omega)⟩ (by
  cases c:v.ownBlock with
  | none=>exact .inl rfl
  | some k=>exact .inr (by simp))
theorem Tryz.infoPiece:(prog.info? 185).map (fun i=>(i.zero,i.size,i.bytes))=some (some (.agg #[.int .i64 0,.int .i64 0]),2,16):=by kernel_rfl
theorem Pcs.news{base cap:Nat}{l:List (Int×Int)}(h:Pcs w base (.slice (some ⟨g,0,none⟩) l.length cap) l):∀j u,(aS l)[j]?=some u->w.cell? ((⟨g,0,none⟩:Addr).add j)=some u:=
 a1V h rfl
theorem gQ(l:List (Int×Int)):∀u∈aS l,u.oneCell'=true:=by
 induction l with
 | nil=>intro u a;simp[aS]at a
 | cons p l ih=>
  intro u a;simp only[aS,a0Z]at a;rcases a with rfl|rfl|a
  . rfl
  . rfl
  . exact ih u a
theorem mj{base:Nat}{l:List (Int×Int)}{a b:Int}(h:x.ownsRow base 185 2 v (l.length+1) (aS l++[.int .i64 a,.int .i64 b])):Pcs x base v (l++[(a,b)]):=by
 show World.ownsRow _ _ _ _ _ (l++[(a,b)]).length _;rw[ef];simpa[aS]using h
theorem Gz{base:Nat}{l:List (Int×Int)}{a b:Int}(c:l.length=n)(h:x.ownsRow base 185 2 v (n+1) (aS l++[.int .i64 a,.int .i64 b])):Pcs x base v (l++[(a,b)]):=by
 subst c;exact mj h
theorem Pcs.formN{base:Nat}{l:List (Int×Int)}(b:l.length=n)(h:Pcs w base v l):∃a cap,v = .slice a n cap:=by
 subst b;exact h.form
theorem Pcs.own{base:Nat}{l:List (Int×Int)}(a:l.length=n)(h:Pcs w base v l):w.ownsRow base 185 2 v n (aS l):=by
 subst a;exact h
theorem Pcs.rowN{base:Nat}{cap:Nat}{l:List (Int×Int)}(b:l.length=n)(h:Pcs w base (.slice a n cap) l):nB w a l:=by
 subst b;exact h.row
theorem Pcs.newsN{base cap:Nat}{l:List (Int×Int)}(a:l.length=n)(h:Pcs w base (.slice (some ⟨g,0,none⟩) n cap) l):∀j u,(aS l)[j]?=some u->w.cell? ((⟨g,0,none⟩:Addr).add j)=some u:=by
 subst a;exact h.news
theorem sg(w:World)(x y:Value)(t:TypeId):∀(j:Nat) (u:Value),[x,y][j]?=some u->(w.alloc (.cells #[x,y] t)).cell? ((⟨w.heap.size,0,none⟩:Addr).add j)=some u:=by
 intro j u a
 match j,a with
 | 0,a=>simp at a;subst a;simp[Addr.add]
 | 1,a=>simp at a;subst a;simp[Addr.add]
theorem sf(x y:Int):∀u∈[Value.int .i64 x,Value.int .i64 y],u.oneCell'=true:=by
 intro u a;simp at a;rcases a with rfl|rfl<;>rfl
open Corb
def bu(l:List (Int×Int)):Bool:=l.all (fun p=>pOk p.1 p.2)
theorem BF(l:List (Int×Int))(k:Nat)(h:k<l.length):bu (l.take (k+1))=(bu (l.take k)&&pOk (l.getD k (0,0)).1 (l.getD k (0,0)).2):=by
 rw[a1e h,bu,a1Y]
 congr 1
 simp[List.getD,h]
theorem uO{l:List (Int×Int)}(h:bu (l.take k)=false):bu l=false:=by
 rw[←a2U]at h ⊢;intro h2;apply h;simp only[bu,a09]at h2 ⊢;intro x a;exact h2 x (a2a a)
def bZ(l:List (Int×Int)):Int:=(l.map (·.2)).sum
def lOk(l:List (Int×Int)):Bool:=bu l&&decide (l.length<=4000)
def oW(l:List (Int×Int)):Int:=if lOk l=true then bZ l else -1
theorem vR{l:List (Int×Int)}(h:lOk l=true):oW l=bZ l:=a0e h
theorem tT{l:List (Int×Int)}(h:lOk l=false):oW l = -1:=a0d (by simp[h])
theorem KG(l:List (Int×Int))(k:Nat)(h:k<l.length):bZ (l.take (k+1))=bZ (l.take k)+(l.getD k (0,0)).2:=by
 rw[a1e h,bZ,a0I,List.sum_append];simp[bZ,List.getD,h]
theorem Dy{l:List (Int×Int)}(h:bu l=true):0<=bZ l/\bZ l<=16*(l.length:Int):=by
 induction l with
 | nil=>simp[bZ]
 | cons p l ih=>
  simp only[bu,a1Z,a0o]at h;have a:=aQ.1 h.1;have h2:=ih h.2;simp only[bZ,a0H,a0M,a0E]at h2 ⊢;omega
theorem ER{l:List (Int×Int)}(h:bu l=true)(k:Nat)(a:k<l.length):pOk (l.getD k (0,0)).1 (l.getD k (0,0)).2=true:=by
 simp only[bu,a09]at h;have e:l.getD k (0,0)=l[k]:=by simp[List.getD,a]
 rw[e];exact h _ (a2i a)
theorem lA{l:List (Int×Int)}(h:bu l=true)(k:Nat):bu (l.take k)=true:=by
 simp only[bu,a09]at h ⊢;exact fun x a=>h x (a2a a)
theorem gJ(a:Option Addr)(cap:Nat)(l:List (Int×Int))(w:World)(h:nB w a l)(D:l.length<=1000000000) :
  Ds 131 #[.slice a l.length cap] w (.int .i64 (oW l)):=by
 by_cases A:(l.length:Int)<=4000
 .
  go_enter func131,ntmps131;go_wp2_with fail
  go_loopw [3,5,11] (fun n _ i wr=>∃k:Nat,k<=l.length/\i = .int .i64 k/\n = .int .i64 (bZ (l.take k))/\bu (l.take k)=true/\Below w.heap.size w wr) (fun _ _ i _=>l.length-(intOf i).toNat)
  case atStart=>exact⟨0,a0g _,rfl,rfl,rfl,a0c _ _⟩
  case round=>
   obtain⟨k,C,rfl,rfl,c,b⟩:=hrel;obtain⟨s0,s1⟩:=Dy c;have s2:((l.take k).length:Int)<=4000:=by simp;omega
   have s3:bZ (l.take k)<=64000:=by omega
   by_cases j:k<l.length
   .
    obtain⟨g,o,rfl,B,r⟩:=(h.later b) (by omega);obtain⟨c0,c1⟩:=r k j;have v:=ae (KG l k j);have q:=ae (BF l k j);have f:=ae c;clear r h c s1 s2;generalize (l.getD k (0,0)).1=x at *
    generalize (l.getD k (0,0)).2=y at *
    cases m:pOk x y
    .
     have t:Hid (oW l = -1):=tT (by
      have:bu l=false:=uO (k:=k+1) (by rw[ab q,m];simp);simp[lOk,this])
     generalize bZ (l.take k)=S at *
     go_wp2_with (go_at_call 175;refine(jJ _ _ _).mono ?_;rintro e w1 ⟨rfl,d⟩);go_ret;exact⟨aH (ab t).symm,(b.alloc b.size _).trans (d.mono (by have:=b.size;simp;omega))⟩
    .
     obtain⟨⟨y0,y1⟩,_⟩:=aQ.1 m;generalize bZ (l.take k)=S at *
     go_wp2_with (go_at_call 175;refine(jJ _ _ _).mono ?_;rintro e w1 ⟨rfl,d⟩;have z:w1.cell? ⟨wr.heap.size,1,none⟩=some (.int .i64 y):=(d.cell (p:=⟨wr.heap.size,1,none⟩) (by simp)).trans (by simp));go_roundw
     case rel=>exact⟨k+1,by omega,by go_num,by rw[ab v],by rw[ab q,ab f,m];rfl,(b.alloc b.size _).trans (d.mono (by have:=b.size;simp;omega))⟩
     case measure=>simp[intOf];omega
   .
    have s:Hid (oW l=bZ (l.take k)):=by
     rw[a0x (by omega)]at c ⊢;exact vR (by simp[lOk,c];omega)
    clear h c;go_wp2;go_ret;exact⟨aH (ab s).symm,b⟩
 . have u:Hid (oW l = -1):=tT (by simp[lOk];omega);go_enter func131,ntmps131;go_wp2;go_ret;exact⟨aH (ab u).symm,a0c _ _⟩
def bj(t:TypeId)(w w':World):Prop:=∀(k:Nat) (c:Array Value) (f:Nat×Nat),w.heap[k]?=some (Obj.cells c t f)->w'.heap[k]?=some (Obj.cells c t f)
theorem bj.refl(t:TypeId)(w:World):bj t w w:=fun _ _ _ h=>h
theorem bj.trans{w2:World}(h:bj t w w1)(k:bj t w1 w2):bj t w w2:=fun j c f a=>k j c f (h j c f a)
theorem dh{o:Obj}(h:w.heap[k]?=some o):k<w.heap.size:=(Array.getElem?_eq_some_iff.1 h).1
theorem bj.below(h:Below w.heap.size w w'):bj t w w':=fun j _ _ a=>(h.block j (dh a)).trans a
theorem bj.alloc(h:bj t w w')(o:Obj):bj t w (w'.alloc o):=fun j c f a=>(a1i w' o j (dh (h j c f a))).trans (h j c f a)
theorem bj.drew(h:bj t w w'):bj t w w'.drew:=h
theorem bj.set{c:Array Value}(h:bj t w w')(e:w'.heap[g]?=some (.cells c t' f))(b:t≠t')(u:Value):bj t w (w'.setCell ⟨g,o,none⟩ u):=by
 intro j d f' i;have a:=h j d f' i;rw[a0P w' ⟨g,o,none⟩ u j (by
  show j≠g;rintro rfl;rw[e]at a;simp only[a0l,a3D]at a;exact b a.2.1.symm)]
 exact a
theorem bj.own{base size:Nat}(h:bj t w w')(d:w.ownsRow base t size v n xs):w'.ownsRow base t size v n xs:=by
 refine⟨d.1,?_⟩;rcases d.2 with e|⟨g,cap,a,rfl,b,c,rest⟩
 . exact .inl e
 . exact .inr ⟨g,cap,a,rfl,b,h g _ _ c,rest⟩
theorem Gn{base size cap:Nat}{e:TypeId}{a:Addr}(h:w.ownsRow base e size (.slice (some a) n cap) n xs)(i:a=⟨g,0,none⟩):∃c,w.heap[g]?=some (.cells c e):=by
 subst i;rcases h.2 with⟨j,_⟩|⟨g',d,f,e',_,b,_⟩
 . cases j
 . simp only[a0J,a0l,a0B,a0O]at e';obtain⟨rfl,_,_⟩:=e';exact⟨_,b⟩
theorem bj.touch{c:Array Value}(d:w.heap[g]?=some (.cells c t' f))(b:t≠t')(h:Touch (some ⟨g,0,none⟩) w w'):bj t w w':=by
 intro j i f' a;rw[h.2 j (fun g' e=>by
  simp only[a0l,a0B,a0O]at e;subst e;rintro rfl;rw[d]at a;simp only[a0l,a3D]at a;exact b a.2.1.symm)]
 exact a
theorem bj.grown{w2:World}{base size:Nat}(h:bj t w w1)(m:w1.ownsRow base t' size v n xs)(d:t≠t')(k:w1.grownBy w2 v.ownBlock):bj t w w2:=by
 intro j c f l;have a:=h j c f l;rw[k.block j (dh a) (by
  intro e;rcases m.2 with⟨rfl,_⟩|⟨g,cap,i,rfl,_,b,_⟩
  . cases e
  . simp only[Value.ownBlock,a0l]at e;subst e;rw[b]at a;simp only[a0l,a3D]at a;exact d a.2.1.symm)]
 exact a
theorem oM{x z:Value}(h:w.heap[b]?=some (Obj.cells #[x,y,z] t)):w.cell? ⟨b,0,none⟩=some x/\w.cell? ⟨b,1,none⟩=some y/\w.cell? ⟨b,2,none⟩=some z/\b<w.heap.size:=
 ⟨by simp[World.cell?,h],by simp[World.cell?,h],by simp[World.cell?,h],(Array.getElem?_eq_some_iff.1 h).1⟩
theorem da{x:Value}(h:w.heap[b]?=some (Obj.cells #[x,y] t)):w.cell? ⟨b,0,none⟩=some x/\w.cell? ⟨b,1,none⟩=some y/\b<w.heap.size:=
 ⟨by simp[World.cell?,h],by simp[World.cell?,h],(Array.getElem?_eq_some_iff.1 h).1⟩
theorem alloc_at(w:World)(o:Obj):(w.alloc o).heap[w.heap.size]?=some o:=Array.getElem?_push_size
def krN(b:Int):Nat:=if 0<b then p2 (15-b).toNat else 0
def kr(l:List Int):Nat:=(l.map krN).sum
def us(l:List Int):Nat:=(l.map (fun b=>if 0<b then 1 else 0)).sum
def inL(l:List Int):Bool:=l.all (fun b=>inB b 0 15)
def lx(l:List Int):Bool:=decide (kr l=32768) || (decide (us l=1)&&decide (kr l=16384))
def ar(l:List Int):Bool:=inL l&&decide (l.length<=300)&&lx l
theorem xr(l:List Int)(k:Nat)(h:k<l.length):kr (l.take (k+1))=kr (l.take k)+krN (l.getD k 0):=by
 rw[bX l k h];simp[kr]
theorem pw(l:List Int)(k:Nat)(h:k<l.length):us (l.take (k+1))=us (l.take k)+(if 0<l.getD k 0 then 1 else 0):=by
 rw[bX l k h];simp[us]
theorem zo(l:List Int)(k:Nat)(h:k<l.length):inL (l.take (k+1))=(inL (l.take k)&&inB (l.getD k 0) 0 15):=by
 rw[bX l k h];simp[inL]
theorem Cm(b:Int):krN b<=32768:=by
 unfold krN
 split
 . have h2:2 ^ (15-b).toNat<=2 ^ 15:=a0N (by omega) (by omega);have a:p2 (15-b).toNat=2 ^ (15-b).toNat:=rfl;omega
 . omega
theorem MW(l:List Int):kr l<=32768*l.length:=by
 induction l with
 | nil=>simp[kr]
 | cons b l ih=>
  have:=Cm b;simp only[kr,a0H,a0M,a0E]at ih ⊢;omega
theorem rD(l:List Int):us l<=l.length:=by
 induction l with
 | nil=>simp[us]
 | cons b l ih=>
  simp only[us,a0H,a0M,a0E]at ih ⊢
  split<;>omega
theorem xo(h:k<l.length)(a:inB (l.getD k 0) 0 15=false):inL l=false:=by
 rcases hb:inL l with _|_
 . rfl
 . have:=a09.1 hb (l.getD k 0) (by simp[List.getD,h]);rw[a]at this;exact absurd this (by simp)
theorem tC(a:Option Addr)(cap n:Nat)(l:List Int)(w:World)(v:l.length=n)(h:aY w a l)(s:n<=1048576) :
  Calls prog 171 #[.slice a n cap] w fun e w'=>e = .returned (.int .i64 (us l:Nat))/\w'=w:=by
 subst v;have t:(l.length:Int)<=1048576:=by omega
 clear s;go_enter func171,ntmps171;go_wp2_with fail
 go_loop [3,4] (fun n i=>∃k:Nat,k<=l.length/\i = .int .i64 k/\n = .int .i64 (us (l.take k):Nat)) (fun _ i=>l.length-(intOf i).toNat)
 case atStart=>exact⟨0,a0g _,rfl,rfl⟩
 case round=>
  obtain⟨k,r,rfl,rfl⟩:=hrel;by_cases c:k<l.length
  .
   obtain⟨g,o,rfl,x,m⟩:=h (by omega);have c0:=m k c;have d:=ae (pw l k c);have j:=rD (l.take k);have p:(us (l.take k):Int)<=1048576:=by
    have:(l.take k).length<=l.length:=by simp;omega
    omega
   clear m r h j;generalize l.getD k 0=y at *
   generalize us (l.take k)=u at *
   by_cases q:0<y
   .
    have b:Hid (us (l.take (k+1))=u+1):=by have:=ab d;rw[a0e q]at this;exact this
    go_wp2
    go_round
    case rel=>exact⟨k+1,by omega,by go_num,by rw[ab b];go_num⟩
    case measure=>simp[intOf];omega
   .
    have b:Hid (us (l.take (k+1))=u):=by have:=ab d;rw[a0d q]at this;exact this
    go_wp2
    go_round
    case rel=>exact⟨k+1,by omega,by go_num,by rw[ab b]⟩
    case measure=>simp[intOf];omega
  . have f:Hid (l.take k=l):=a0x (by omega);clear h;go_wp2;go_ret;exact⟨aH (by rw[ab f]),rfl⟩
theorem mV(h:inL l=false∨300<l.length):ar l=false:=by
 unfold ar;rcases h with h|h
 . simp[h]
 . rw[a0h (by omega)];simp
theorem tK(h:inL l=true)(a:l.length<=300):ar l=lx l:=by
 simp[ar,h,a]
theorem jp(a:Option Addr)(cap n:Nat)(l:List Int)(w:World)(G:l.length=n)(h:aY w a l)(M:n<=1048576) :
  Calls prog 204 #[.slice a n cap] w fun e w'=>e = .returned (.bool (ar l))/\w'=w:=by
 subst G;have Q:(l.length:Int)<=1048576:=by omega
 have I:=ae M;clear M;go_enter func204,ntmps204;go_wp2_with fail
 go_loopw [3,4] (fun n i wr=>∃k:Nat,k<=l.length/\i = .int .i64 k/\n = .int .i64 (kr (l.take k):Nat)/\inL (l.take k)=true/\wr=w) (fun _ i _=>l.length-(intOf i).toNat)
 case atStart=>exact⟨0,a0g _,rfl,rfl,rfl,rfl⟩
 case round=>
  obtain⟨k,P,rfl,rfl,d,rfl⟩:=hrel;have r:=ae d;have E:=MW (l.take k);have F:(l.take k).length<=l.length:=by simp;omega
  have D:(kr (l.take k):Int)<=34359738368:=by have:=ab I;omega
  clear d E F;by_cases j:k<l.length
  .
   obtain⟨g,o,rfl,R,J⟩:=h (by omega);have c0:=J k j;have B:=ae (xr l k j);have hit:=ae (zo l k j);have A:=ae (fun G=>xo j G);clear J P h;generalize l.getD k 0=y at *
   generalize kr (l.take k)=u at *
   cases t:inB y 0 15
   . have m:=ae (mV (a0n (ab A t)));go_wp2_with fail;refine(aF _ _ _ _).mono ?_;rintro e x1 ⟨rfl,rfl⟩;rw[t];go_wp2;go_ret;exact⟨ak (ab m).symm,rfl⟩
   .
    obtain⟨y0,y1⟩:=az.1 t;have p:Hid (inL (l.take (k+1))=true):=by show inL (l.take (k+1))=true;rw[ab hit,ab r,t];rfl
    by_cases N:0<y
    .
     have f:Hid (krN y=p2 (15-y).toNat):=a0e N;have z:=Cm y;rw[ab f]at z;have H:=ae (fun W=>fi (15-y) W (by omega));generalize p2 (15-y).toNat=PW at *
     have O:(PW:Int)<=32768:=by omega
     clear z;go_wp2_with fail;refine(aF _ _ _ _).mono ?_;rintro e x1 ⟨rfl,rfl⟩;rw[t];go_wp2_with fail;refine(ab H _).mono ?_;rintro e x2 ⟨rfl,rfl⟩;go_wp2;go_roundw
     case rel=>exact⟨k+1,by omega,by go_num,by rw[ab B,ab f];go_num,ab p,by first|rfl|trivial⟩
     case measure=>simp[intOf];omega
    .
     have f:Hid (krN y=0):=a0d N;go_wp2_with fail;refine(aF _ _ _ _).mono ?_;rintro e x1 ⟨rfl,rfl⟩;rw[t];go_wp2;go_roundw
     case rel=>exact⟨k+1,by omega,by go_num,by rw[ab B,ab f];rfl,ab p,by first|rfl|trivial⟩
     case measure=>simp[intOf];omega
  .
   have s:l.take k=l:=a0x (by omega);rw[s]at D ⊢;have d:inL l=true:=by have:=ab r;rw[s]at this;exact this
   have e14:p2 (14:Int).toNat=16384:=by decide
   have e15:p2 (15:Int).toNat=32768:=by decide
   have E14:=ae e14;have E15:=ae e15;have v:=ae d;clear s r d e14 e15;have C:=ae (tC a cap l.length l wr rfl h (ab I));by_cases L:(l.length:Int)<=300
   .
    have q:=ae (tK (ab v) (by omega));clear h;by_cases c:us l=1
    .
     have b:Hid (ar l=(decide (kr l=32768) || decide (kr l=16384))):=by
      show ar l=_;rw[ab q,lx,a0u c,a3v]
     go_wp2_with fail;refine(ab C).mono ?_;rintro e x1 ⟨rfl,rfl⟩;rw[c];go_wp2_with fail;refine(fi 14 _ (by omega)).mono ?_;rintro e x2 ⟨rfl,rfl⟩;rw[ab E14];go_wp2_with fail;refine(fi 15 _ (by omega)).mono ?_;rintro e x3 ⟨rfl,rfl⟩;rw[ab E15];generalize kr l=K at *
     by_cases x:K=32768
     . subst x;go_wp2;go_ret;exact⟨ak (by rw[ab b];rfl),rfl⟩
     .
      have g1:((K:Int) == 32768)=false:=by simp;omega
      by_cases h2:K=16384
      . subst h2;go_wp2;go_ret;exact⟨ak (by rw[ab b];rfl),rfl⟩
      .
       have g2:((K:Int) == 16384)=false:=by simp;omega
       go_wp2;go_ret;exact⟨ak (by rw[ab b];simp[x,h2]),rfl⟩
    .
     have g0:((us l:Int) == 1)=false:=by simp;omega
     have b:Hid (ar l=decide (kr l=32768)):=by
      show ar l=_;rw[ab q,lx,a0h c,Bool.false_and,Bool.or_false]
     go_wp2_with fail;refine(ab C).mono ?_;rintro e x1 ⟨rfl,rfl⟩;go_wp2_with fail;refine(fi 15 _ (by omega)).mono ?_;rintro e x3 ⟨rfl,rfl⟩;rw[ab E15];generalize kr l=K at *
     by_cases x:K=32768
     . subst x;go_wp2;go_ret;exact⟨ak (by rw[ab b];rfl),rfl⟩
     .
      have g1:((K:Int) == 32768)=false:=by simp;omega
      go_wp2;go_ret;exact⟨ak (by rw[ab b];simp[x]),rfl⟩
   .
    have m:=ae (mV (l:=l) (Or.inr (by omega)));clear h;by_cases c:us l=1
    . go_wp2_with fail;refine(ab C).mono ?_;rintro e x1 ⟨rfl,rfl⟩;rw[c];go_wp2_with fail;refine(fi 14 _ (by omega)).mono ?_;rintro e x2 ⟨rfl,rfl⟩;rw[ab E14];go_wp2;go_ret;exact⟨ak (by rw[ab m]),rfl⟩
    .
     have g0:((us l:Int) == 1)=false:=by simp;omega
     go_wp2_with fail;refine(ab C).mono ?_;rintro e x1 ⟨rfl,rfl⟩;go_wp2;go_ret;exact⟨ak (by rw[ab m]),rfl⟩
theorem u9(a:Option Addr)(cap n:Nat)(l:List Int)(w:World)(O:l.length=n)(h:aY w a l)(p:inL l=true)(H:n<=300) :
  Calls prog 255 #[.slice a n cap] w fun e w'=>e = .returned (.bool (lx l))/\w'=w:=by
 subst O;have N:(l.length:Int)<=300:=by omega
 have J:=ae H;have z:=ae p;clear H p;go_enter func255,ntmps255;go_wp2_with fail
 go_loop [3,4,6,9] (fun u n _ i=>∃k:Nat,k<=l.length/\i = .int .i64 k/\u = .int .i64 (us (l.take k):Nat)/\n = .int .i64 (kr (l.take k):Nat)) (fun _ _ _ i=>l.length-(intOf i).toNat)
 case atStart=>exact⟨0,a0g _,rfl,rfl,rfl⟩
 case round=>
  obtain⟨k,M,rfl,rfl,rfl⟩:=hrel;have C:=MW (l.take k);have F:=rD (l.take k);have D:(l.take k).length<=l.length:=by simp;omega
  have B:(kr (l.take k):Int)<=9830400:=by have:=ab J;omega
  have E:(us (l.take k):Int)<=300:=by omega
  clear C D F;by_cases f:k<l.length
  .
   obtain⟨g,o,rfl,T,m⟩:=h (by omega);have c0:=m k f;have s:=ae (xr l k f);have t:=ae (pw l k f);have S:inB (l.getD k 0) 0 15=true:=by
    rcases hb:inB (l.getD k 0) 0 15 with _|_
    . have:=xo f hb;rw[ab z]at this;exact absurd this (by simp)
    . rfl
   clear m M h;generalize l.getD k 0=y at *
   generalize kr (l.take k)=u at *
   generalize us (l.take k)=q at *
   obtain⟨y0,y1⟩:=az.1 S;by_cases x:0<y
   .
    obtain⟨c,m⟩:∃c:Nat,15-y=(c:Int):=⟨(15-y).toNat,by omega⟩;have d:Hid (krN y=p2 c):=by
     show krN y=p2 c;unfold krN;rw[a0e x,m,a0t]
    have j:=Cm y;rw[ab d]at j;have b:Hid (us (l.take (k+1))=q+1):=by have:=ab t;rw[a0e x]at this;exact this
    have P:(1:Int)*2 ^ c=(p2 c:Int):=by rw[Int.one_mul,jZ]
    have I:(2:Int) ^ c=(p2 c:Int):=(jZ c).symm;generalize p2 c=PW at *
    have L:(PW:Int)<=32768:=by omega
    have Q:IntKind.i64.wrap (15-y)=(c:Int):=by rw[m];exact bH _ (by omega) (by omega)
    have R:IntKind.i64.wrap (PW:Int)=(PW:Int):=bH _ (by omega) (by omega);clear j;go_wp2
    go_round
    case rel=>exact⟨k+1,by omega,by go_num,by rw[ab b];go_num,by rw[ab s,ab d];go_num⟩
    case measure=>simp[intOf];omega
   .
    have d:Hid (krN y=0):=a0d x;have b:Hid (us (l.take (k+1))=q):=by have:=ab t;rw[a0d x]at this;exact this
    go_wp2
    go_round
    case rel=>exact⟨k+1,by omega,by go_num,by rw[ab b],by rw[ab s,ab d];rfl⟩
    case measure=>simp[intOf];omega
  .
   have r:l.take k=l:=a0x (by omega);rw[r]at B E ⊢;have v:Hid (lx l=(decide (kr l=32768) || (decide (us l=1)&&decide (kr l=16384)))):=rfl;clear h r;generalize kr l=K at *
   generalize us l=U at *
   by_cases A:K=32768
   . subst A;go_wp2;go_ret;exact⟨ak (by rw[ab v];rfl),rfl⟩
   .
    have g1:((K:Int) == 32768)=false:=by simp;omega
    by_cases G:U=1
    .
     subst G;by_cases h2:K=16384
     . subst h2;go_wp2;go_ret;exact⟨ak (by rw[ab v];rfl),rfl⟩
     .
      have g2:((K:Int) == 16384)=false:=by simp;omega
      go_wp2;go_ret;exact⟨ak (by rw[ab v];simp[A,h2]),rfl⟩
    .
     have g3:((U:Int) == 1)=false:=by simp;omega
     go_wp2;go_ret;exact⟨ak (by rw[ab v];simp[A,G]),rfl⟩
theorem s9(a:Option Addr)(cap n:Nat)(l:List Int)(w:World)(s:l.length=n)(h:aY w a l)(v:n<=1048576) :
  Calls prog 249 #[.slice a n cap] w fun e w'=>e = .returned (.bool (ar l))/\w'=w:=by
 subst s;by_cases u:(l.length:Int)<=300
 .
  clear v;go_enter func249,ntmps249;go_wp2_with fail
  go_loopw [4,10] (fun _ i wr=>∃k:Nat,k<=l.length/\i = .int .i64 k/\inL (l.take k)=true/\wr=w) (fun _ i _=>l.length-(intOf i).toNat)
  case atStart=>exact⟨0,a0g _,rfl,rfl,rfl⟩
  case round=>
   obtain⟨k,A,rfl,b,rfl⟩:=hrel;have f:=ae b;clear b;by_cases d:k<l.length
   .
    obtain⟨g,o,rfl,C,t⟩:=h (by omega);have c0:=t k d;have hit:=ae (zo l k d);have j:=ae (fun s=>xo d s);clear t A h;generalize l.getD k 0=y at *
    cases r:inB y 0 15
    .
     have c:=ae (mV (a0n (ab j r)));rcases dJ.1 r with z|z
     . go_wp2;go_ret;exact⟨ak (ab c).symm,rfl⟩
     .
      have B:¬ y<0:=by omega
      go_wp2;go_ret;exact⟨ak (ab c).symm,rfl⟩
    .
     obtain⟨y0,y1⟩:=az.1 r;have m:Hid (inL (l.take (k+1))=true):=by show inL (l.take (k+1))=true;rw[ab hit,ab f,r];rfl
     go_wp2;go_roundw
     case rel=>exact⟨k+1,by omega,by go_num,ab m,by first|rfl|trivial⟩
     case measure=>simp[intOf];omega
   .
    have p:l.take k=l:=a0x (by omega);have b:inL l=true:=by have:=ab f;rw[p]at this;exact this
    have q:=ae (tK b (by omega));have x:=ae (u9 a cap l.length l wr rfl h b (by omega));clear p b h;go_wp2_with fail;refine(ab x).mono ?_;rintro e x1 ⟨rfl,rfl⟩;go_wp2;go_ret;exact⟨ak (ab q).symm,rfl⟩
 . have c:=ae (mV (l:=l) (Or.inr (by omega)));clear v h;go_enter func249,ntmps249;go_wp2;go_ret;exact⟨ak (ab c).symm,rfl⟩
def inn(l:List Int)(n:Int)(s:Nat×List Int):Nat->Nat×List Int
 | 0=>s
 | k+1=>if l.getD k 0=n then((inn l n s k).1+1,(inn l n s k).2.set k ((inn l n s k).1:Int))else inn l n s k
def aT(l:List Int):Nat->Nat×List Int
 | 0=>(0,List.replicate l.length 0)
 | N+1=>inn l ((N:Int)+1) (2*(aT l N).1,(aT l N).2) l.length
theorem rX(l:List Int)(n:Int)(s:Nat×List Int)(k:Nat):(inn l n s k).2.length=s.2.length:=by
 induction k with
 | zero=>rfl
 | succ k ih=>
  simp only[inn]
  split
  . simpa using ih
  . exact ih
theorem bw(l:List Int)(N:Nat):(aT l N).2.length=l.length:=by
 induction N with
 | zero=>simp[aT]
 | succ N ih=>simp only[aT];rw[rX];exact ih
theorem Cj(l:List Int)(n:Int)(s:Nat×List Int)(k:Nat):(inn l n s k).1<=s.1+k:=by
 induction k with
 | zero=>exact a0a _
 | succ k ih=>
  simp only[inn]
  split
  . simp only;omega
  . omega
theorem Mg(l:List Int)(N:Nat):(aT l N).1+l.length<=2 ^ N*l.length:=by
 induction N with
 | zero=>simp[aT]
 | succ N ih=>
  simp only[aT];have h:=Cj l ((N:Int)+1) (2*(aT l N).1,(aT l N).2) l.length;simp only at h;have e:2 ^ (N+1)*l.length=2*(2 ^ N*l.length):=by rw[a15,a1s (2 ^ N),a2y]
  omega
theorem r9(l:List Int)(N:Nat)(a:N<=15)(b:l.length<=300):(aT l N).1<=9830400:=by
 have h:=Mg l N;have h2:2 ^ N<=2 ^ 15:=a0N (by omega) a;have c:2 ^ N*l.length<=32768*300:=Nat.mul_le_mul h2 b;omega
theorem dR(a:Option Addr)(cap n:Nat)(l:List Int)(w:World)(U:l.length=n)(h:aY w a l)(X:n<=300) :
  Calls prog 164 #[.slice a n cap] w fun e w'=>e = .returned (.slice (some ⟨w.heap.size,0,none⟩) n n)/\am w' w.heap.size (.slice (some ⟨w.heap.size,0,none⟩) n n) (aT l 15).2/\Below w.heap.size w w':=by
 have ac:(n:Int)<=300:=by omega
 obtain⟨i0,W,G,H,I⟩:=a0p Tryz.infoInt;have u:=ae U;have L:=ae X;go_enter func164,ntmps164;go_wp2_with (at_make;refine a1y _ rfl _ _ 137 rfl w.heap.size 3 i0 (.int .i64 0) 1 a0D W G H .i64 .i64 _ _ n rfl rfl rfl rfl (by rw[I];omega) (by unfold maxLen;omega) (a0a _) ?_;intro w1 s p);have D:am w1 w.heap.size (.slice (some ⟨w.heap.size,0,none⟩) n n) (aT l 0).2:=by
  show am w1 w.heap.size (.slice (some ⟨w.heap.size,0,none⟩) n n) (List.replicate l.length 0);rw[U];exact cU s
 have z:Below w.heap.size w w1:=(a0c _ _).grown p (a0a _) (fun k h=>by cases h);clear s p W G H I X U
 go_loopw [4,5,6] (fun c m _ wr=>∃N:Nat,N<=15/\m = .int .i64 ((N:Int)+1)/\c = .int .i64 (2*(aT l N).1:Nat)/\am wr w.heap.size (.slice (some ⟨w.heap.size,0,none⟩) n n) (aT l N).2/\Below w.heap.size w wr) (fun _ m _ _=>16-(intOf m).toNat)
 case atStart=>exact⟨0,by omega,rfl,rfl,D,z⟩
 case round=>
  obtain⟨N,Y,rfl,rfl,J,f⟩:=hrel;clear D z;have P:=r9 l N Y (by rw[ab u];exact ab L);have O:((2*(aT l N).1:Nat):Int)<=19660800:=by omega
  have Z:(N:Int)<=15:=by omega
  by_cases aa:N<15
  .
   have q:Hid ((aT l N).2.length=n):=(bw l N).trans (ab u);have A:Hid (aT l (N+1)=inn l ((N:Int)+1) (2*(aT l N).1,(aT l N).2) l.length):=rfl;have t:=ae (r9 l (N+1) (by omega) (by rw[ab u];exact ab L));generalize M:((2*(aT l N).1,(aT l N).2):Nat×List Int)=S at *
   have v:2*(aT l N).1=S.1:=by rw[←M]
   have x:(aT l N).2=S.2:=by rw[←M]
   rw[v]at O ⊢;rw[x]at J q;clear M v x P;go_wp2_with fail
   go_loopw [4,6] (fun c i wr=>∃k:Nat,k<=n/\i = .int .i64 k/\c = .int .i64 ((inn l ((N:Int)+1) S k).1:Nat)/\am wr w.heap.size (.slice (some ⟨w.heap.size,0,none⟩) n n) (inn l ((N:Int)+1) S k).2/\Below w.heap.size w wr) (fun _ i _=>n-(intOf i).toNat)
   case atStart=>exact⟨0,a0g _,rfl,rfl,J,f⟩
   case round=>
    obtain⟨k,hk,rfl,rfl,hq,hb⟩:=hrel;clear J f;have r:Hid ((inn l ((N:Int)+1) S k).2.length=n):=(rX _ _ _ _).trans (ab q);have R:=Cj l ((N:Int)+1) S k;have C:((inn l ((N:Int)+1) S k).1:Int)<=19661100:=by have:=ab L;omega
    clear R;by_cases B:k<n
    .
     obtain⟨g,o,rfl,hg,V⟩:=(h.later hb) (by rw[ab u];omega);have c0:=V k (by rw[ab u];exact B);obtain⟨d0,f0,_,_⟩:=hq.at (ab r) B;have F:Hid (inn l ((N:Int)+1) S (k+1)=if l.getD k 0=(N:Int)+1 then((inn l ((N:Int)+1) S k).1+1,(inn l ((N:Int)+1) S k).2.set k ((inn l ((N:Int)+1) S k).1:Int))else inn l ((N:Int)+1) S k):=rfl;clear V hk h;generalize l.getD k 0=y at *
     generalize inn l ((N:Int)+1) S k=T at *
     by_cases K:y=(N:Int)+1
     .
      have b:Hid (inn l ((N:Int)+1) S (k+1)=(T.1+1,T.2.set k (T.1:Int))):=by have:=ab F;rw[a0e K]at this;exact this
      have E:=ae (hq.put (j:=k) (ab r) (T.1:Int));subst K;generalize T.2.getD k 0=d at *
      go_wp2;go_roundw
      case rel=>exact⟨k+1,by omega,by go_num,by rw[ab b];go_num,by rw[ab b];exact ab E,ah hb (a0a _) _⟩
      case measure=>simp[intOf];omega
     .
      have b:Hid (inn l ((N:Int)+1) S (k+1)=T):=by have:=ab F;rw[a0d K]at this;exact this
      have g1:(y == (N:Int)+1)=false:=by simpa using K
      go_wp2;go_roundw
      case rel=>exact⟨k+1,by omega,by go_num,by rw[ab b],by rw[ab b];exact hq,hb⟩
      case measure=>simp[intOf];omega
    .
     have Q:k=l.length:=by have:=ab u;omega
     subst Q;rw[←ab A]at hq C ⊢;have ad:((aT l (N+1)).1:Int)<=9830400:=by have:=ab t;omega
     go_wp2;go_roundw
     case rel=>exact⟨N+1,by omega,by go_num,by go_num,hq,hb⟩
     case measure=>simp[intOf];omega
  .
   obtain rfl:N=15:=by omega
   go_wp2;go_ret;exact⟨rfl,J,f⟩
def many(l:List Int)(n:Int):Nat->Nat
 | 0=>0
 | k+1=>if l.getD k 0=n then many l n k+1 else many l n k
def syms(l:List Int)(n:Int)(s:List Int):Nat->List Int
 | 0=>s
 | k+1=>if l.getD k 0=n then syms l n s k++[(k:Int)]else syms l n s k
def di(l:List Int):Nat->List Int
 | 0=>[]
 | N+1=>syms l ((N:Int)+1) (di l N) l.length
def gg(l:List Int)(N j:Nat):Nat:=if 1<=j/\j<=N then many l (j:Int) l.length else 0
def fI(w:World)(b:Nat)(vl vc vs:Value)(m:Nat->Nat):Prop:=
 w.cell? ⟨b,0,none⟩=some vl/\w.cell? ⟨b,1,none⟩=some vc/\(∀j,j<16->w.cell? ⟨b,2+j,none⟩=some (.int .i64 (m j:Nat)))/\w.cell? ⟨b,18,none⟩=some vs/\(∀o,w.frozen? ⟨b,o,none⟩=false)/\b<w.heap.size
theorem fI.kept(h:fI w b vl vc vs m)(hb:Below (b+1) w w'):fI w' b vl vc vs m:=by
 obtain⟨c0,c1,c2,c3,f,c⟩:=h;have a:=a0i b;exact⟨(hb.cell (p:=⟨b,0,none⟩) a).trans c0,(hb.cell (p:=⟨b,1,none⟩) a).trans c1,fun j d=>(hb.cell (p:=⟨b,2+j,none⟩) a).trans (c2 j d),(hb.cell (p:=⟨b,18,none⟩) a).trans c3,fun o=>(hb.frozen (p:=⟨b,o,none⟩) a).trans (f o),a0m c hb.size⟩
theorem fI.other(h:fI w b vl vc vs m)(d:g≠b)(u:Value):fI (w.setCell ⟨g,o,none⟩ u) b vl vc vs m:=by
 obtain⟨c0,c1,c2,c3,f,a⟩:=h;refine⟨?_,?_,fun j c=>?_,?_,fun o=>by simpa using f o,by simpa using a⟩
 . rw[World.cell?_setCell_other _ _ _ _ (by simp only[ne_eq,a0B];omega)];exact c0
 . rw[World.cell?_setCell_other _ _ _ _ (by simp only[ne_eq,a0B];omega)];exact c1
 . rw[World.cell?_setCell_other _ _ _ _ (by simp only[ne_eq,a0B];omega)];exact c2 j c
 . rw[World.cell?_setCell_other _ _ _ _ (by simp only[ne_eq,a0B];omega)];exact c3
theorem fI.many{x:Nat}(h:fI w b vl vc vs m)(d:i<16):fI (w.setCell ⟨b,2+i,none⟩ (.int .i64 (x:Nat))) b vl vc vs (fun j=>if j=i then x else m j):=by
 obtain⟨c0,c1,c2,c3,f,a⟩:=h;refine⟨?_,?_,fun j c=>?_,?_,fun o=>by simpa using f o,by simpa using a⟩
 . rw[World.cell?_setCell_other _ _ _ _ (by simp only[ne_eq,a0B];omega)];exact c0
 . rw[World.cell?_setCell_other _ _ _ _ (by simp only[ne_eq,a0B];omega)];exact c1
 .
  by_cases e:j=i
  . subst e;rw[World.cell?_setCell_same _ _ _ (c2 j c)];simp
  . rw[World.cell?_setCell_other _ _ _ _ (by simp only[ne_eq,a0B];omega)];simp only[a0d e];exact c2 j c
 . rw[World.cell?_setCell_other _ _ _ _ (by simp only[ne_eq,a0B];omega)];exact c3
theorem fI.sorted(h:fI w b vl vc vs m)(u:Value):fI (w.setCell ⟨b,18,none⟩ u) b vl vc u m:=by
 obtain⟨c0,c1,c2,c3,f,a⟩:=h;refine⟨?_,?_,fun j c=>?_,World.cell?_setCell_same _ _ _ c3,fun o=>by simpa using f o,by simpa using a⟩
 . rw[World.cell?_setCell_other _ _ _ _ (by simp only[ne_eq,a0B];omega)];exact c0
 . rw[World.cell?_setCell_other _ _ _ _ (by simp only[ne_eq,a0B];omega)];exact c1
 . rw[World.cell?_setCell_other _ _ _ _ (by simp only[ne_eq,a0B];omega)];exact c2 j c
theorem JI(l:List Int)(n:Int)(k:Nat):many l n k<=k:=by
 induction k with
 | zero=>exact a0a _
 | succ k ih=>simp only[many];split<;>omega
theorem Da(l:List Int)(N:Nat):(fun j=>if j=N+1 then many l ((N:Int)+1) l.length else gg l N j)=gg l (N+1):=by
 funext j
 unfold gg;by_cases e:j=N+1
 .
  subst e;rw[a0e rfl,a0e ⟨by omega,by omega⟩]
  congr 1
 .
  rw[a0d e];by_cases h:1<=j/\j<=N
  . rw[a0e h,a0e ⟨h.1,by omega⟩]
  . rw[a0d h,a0d (by omega)]
theorem Db(l:List Int)(N:Nat):(fun j=>if j=N+1 then many l ((N:Int)+1) 0 else gg l N j)=gg l N:=by
 funext j
 by_cases e:j=N+1
 . subst e;rw[a0e rfl];unfold gg;rw[a0d (by omega)];rfl
 . rw[a0d e]
theorem wg(l:List Int)(n:Int)(s:List Int)(k:Nat):(syms l n s k).length<=s.length+k:=by
 induction k with
 | zero=>exact a0a _
 | succ k ih=>
  simp only[syms]
  split
  . simp;omega
  . omega
theorem uE(l:List Int)(N:Nat):(di l N).length<=N*l.length:=by
 induction N with
 | zero=>simp[di]
 | succ N ih=>
  have:=wg l ((N:Int)+1) (di l N) l.length;simp only[di];rw[a1t,a2I];omega
def nx(l:List Int):Nat->Nat
 | 0=>0
 | N+1=>2*nx l N+many l ((N:Int)+1) l.length
def pl(l:List Int):Nat->Nat
 | 0=>0
 | N+1=>pl l N+many l ((N:Int)+1) l.length
theorem Ee(l:List Int)(n:Int)(s:Nat×List Int)(k:Nat):(inn l n s k).1=s.1+many l n k:=by
 induction k with
 | zero=>rfl
 | succ k ih=>
  simp only[inn,many]
  split
  . simp only[ih];omega
  . exact ih
theorem JX(l:List Int)(N:Nat):(aT l N).1=nx l N:=by
 induction N with
 | zero=>rfl
 | succ N ih=>simp only[aT,nx];rw[Ee,ih]
theorem LW(l:List Int)(n:Int)(s:Nat×List Int)(k i:Nat)(b:i<s.2.length):(inn l n s k).2.getD i 0=if i<k/\l.getD i 0=n then((s.1+many l n i:Nat):Int)else s.2.getD i 0:=by
 induction k with
 | zero=>simp[inn]
 | succ k ih=>
  simp only[inn]
  split
  case isTrue h=>
   by_cases e:i=k
   .
    subst e;have c:i<(inn l n s i).2.length:=by rw[rX];exact b
    rw[a0e ⟨a0i _,h⟩];simp only[List.getD,List.getElem?_set_self c,a1z];rw[Ee]
   .
    have e2:((inn l n s k).2.set k ((inn l n s k).1:Int)).getD i 0=(inn l n s k).2.getD i 0:=by
     simp only[List.getD];rw[List.getElem?_set_ne (Ne.symm e)]
    simp only;rw[e2,ih];by_cases h2:i<k
    . simp[h2,Nat.lt_succ_of_lt h2]
    . rw[a0d (by omega),a0d (by omega)]
  case isFalse h=>
   rw[ih];by_cases e:i=k
   . subst e;rw[a0d (by omega),a0d (fun a=>h a.2)]
   .
    by_cases h2:i<k
    . simp[h2,Nat.lt_succ_of_lt h2]
    . rw[a0d (by omega),a0d (by omega)]
def dz(l:List Int)(i:Nat):Nat:=2*nx l ((l.getD i 0).toNat-1)+many l (l.getD i 0) i
theorem JY(l:List Int)(N i:Nat)(a:i<l.length):(aT l N).2.getD i 0=if 1<=l.getD i 0/\l.getD i 0<=(N:Int)then(dz l i:Int)else 0:=by
 induction N with
 | zero=>
  rw[a0d (by omega)];simp[aT,List.getD,a]
 | succ N ih=>
  simp only[aT];rw[LW _ _ _ _ _ (by simp only[bw];exact a)];simp only;by_cases e:l.getD i 0=(N:Int)+1
  .
   rw[a0e ⟨a,e⟩,a0e ⟨by omega,by omega⟩,JX];unfold dz;rw[e];have:((N:Int)+1).toNat-1=N:=by omega
   rw[this]
  .
   rw[a0d (fun b=>e b.2),ih];by_cases h2:1<=l.getD i 0/\l.getD i 0<=(N:Int)
   . rw[a0e h2,a0e ⟨h2.1,by omega⟩]
   . rw[a0d h2,a0d (by omega)]
/-! Kraft's sum, by lengths. -/
def krU(N:Nat)(l:List Int):Nat:=(l.map (fun b=>if 0<b/\b<=(N:Int)then p2 (15-b).toNat else 0)).sum
theorem Nr(N:Nat)(l:List Int):krU N l<=kr l:=by
 induction l with
 | nil=>exact a0a _
 | cons b l ih=>
  simp only[krU,kr,krN,a0H,a0M]at ih ⊢
  split<;>split<;>omega
theorem Gc(b:Int)(l:List Int)(n:Int)(k:Nat):many (b :: l) n (k+1)=(if b=n then 1 else 0)+many l n k:=by
 induction k with
 | zero=>simp[many]
 | succ k ih=>
  have e:many (b :: l) n (k+1+1)=if (b :: l).getD (k+1) 0=n then many (b :: l) n (k+1)+1 else many (b :: l) n (k+1):=rfl
  have e2:(b :: l).getD (k+1) 0=l.getD k 0:=by simp[List.getD]
  rw[e,e2,ih];simp only[many]
  split<;>split<;>omega
theorem Jm(N:Nat)(a:N<15)(l:List Int):krU (N+1) l=krU N l+many l ((N:Int)+1) l.length*p2 (14-N):=by
 induction l with
 | nil=>simp[krU,many]
 | cons b l ih=>
  rw[a0E,Gc,a1t];simp only[krU,a0H,a0M]at ih ⊢;rw[ih];by_cases e:b=(N:Int)+1
  .
   rw[a0e (by omega),a0d (by omega),a0e e];have:(15-b).toNat=14-N:=by omega
   rw[this];omega
  .
   rw[a0d e];by_cases h:0<b/\b<=(N:Int)
   . rw[a0e h,a0e (by omega)];omega
   . rw[a0d h,a0d (by omega)];omega
theorem Oa(l:List Int)(N:Nat)(a:N<=15):nx l N*p2 (15-N)=krU N l:=by
 induction N with
 | zero=>
  have:krU 0 l=0:=by
   induction l with
   | nil=>rfl
   | cons b l ih=>
    simp only[krU,a0H,a0M]at ih ⊢;rw[ih,a0d (by omega)]
  rw[this];simp[nx]
 | succ N ih=>
  rw[Jm N (by omega),←ih (by omega)];have e1:15-N=(14-N)+1:=by omega
  have e2:15-(N+1)=14-N:=by omega
  rw[e1,e2,lj];simp only[nx];rw[a1t,a1s 2,a2y,a1s 2]
theorem N7(h:ar l=true):kr l<=32768:=by
 simp only[ar,lx,a0o,a1A,a2B]at h;omega
theorem MY(h:ar l=true)(N:Nat)(a:N<=15):nx l N<=p2 N:=by
 have c:=Oa l N a;have h2:=Nr N l;have d:=N7 h;have e:p2 N*p2 (15-N)=32768:=by
  unfold p2;rw[←a0V];have:N+(15-N)=15:=by omega
  rw[this]
 have b:=mg (15-N);exact Nat.le_of_mul_le_mul_right (by omega:nx l N*p2 (15-N)<=p2 N*p2 (15-N)) b
theorem oY{n:Int}(a:l.getD i 0=n):∀k,i<k->many l n i<many l n k:=by
 intro k b;induction k with
 | zero=>omega
 | succ k ih=>
  by_cases e:i=k
  . subst e;simp only[many];rw[a0e a];omega
  .
   have:=ih (by omega);simp only[many]
   split<;>omega
theorem qd(h:inL l=true)(a:i<l.length):0<=l.getD i 0/\l.getD i 0<=15:=by
 have:=a09.1 h (l.getD i 0) (by simp[List.getD,a]);exact az.1 this
theorem iY(h:ar l=true):inL l=true:=by
 simp only[ar,a0o]at h;exact h.1.1
theorem vq(h:ar l=true)(b:i<l.length)(d:1<=l.getD i 0):dz l i<p2 (l.getD i 0).toNat/\dz l i<nx l (l.getD i 0).toNat:=by
 obtain⟨_,hb⟩:=qd (iY h) b;obtain⟨n,hn⟩:∃n:Nat,l.getD i 0=(n:Int)+1:=⟨(l.getD i 0).toNat-1,by omega⟩;have a:=MY h (n+1) (by omega);have c:=oY hn l.length b;have e1:(l.getD i 0).toNat=n+1:=by omega
 unfold dz;rw[e1,hn];simp only[nx,a3E]at a ⊢;omega
theorem vt(h:ar l=true)(b:i<l.length):(aT l 15).2.getD i 0=if 1<=l.getD i 0 then(dz l i:Int)else 0:=by
 rw[JY l 15 i b];have:=(qd (iY h) b).2;by_cases a:1<=l.getD i 0
 . rw[a0e a,a0e ⟨a,by omega⟩]
 . rw[a0d a,a0d (by omega)]
/-! Symbols in their order. -/
theorem pr(l:List Int)(n:Int)(s:List Int)(k:Nat):(syms l n s k).length=s.length+many l n k:=by
 induction k with
 | zero=>rfl
 | succ k ih=>
  simp only[syms,many]
  split
  . simp[ih];omega
  . exact ih
theorem pq(l:List Int)(N:Nat):(di l N).length=pl l N:=by
 induction N with
 | zero=>rfl
 | succ N ih=>simp only[di,pl];rw[pr,ih]
theorem KJ(l:List Int)(n:Int)(s:List Int)(k j:Nat)(b:j<s.length):(syms l n s k).getD j 0=s.getD j 0:=by
 induction k with
 | zero=>rfl
 | succ k ih=>
  simp only[syms]
  split
  .
   have a:j<(syms l n s k).length:=by rw[pr];omega
   rw[←ih];simp only[List.getD];rw[List.getElem?_append_left a]
  . exact ih
theorem KH(l:List Int)(n:Int)(s:List Int)(k i:Nat)(d:i<k)(a:l.getD i 0=n):(syms l n s k).getD (s.length+many l n i) 0=(i:Int):=by
 induction k with
 | zero=>omega
 | succ k ih=>
  simp only[syms];by_cases e:i=k
  . subst e;rw[a0e a];simp only[List.getD];rw[List.getElem?_append_right (by rw[pr];omega),pr];simp
  .
   have c:=oY a k (by omega)
   split
   .
    have b:s.length+many l n i<(syms l n s k).length:=by rw[pr];omega
    rw[←ih (by omega)];simp only[List.getD];rw[List.getElem?_append_left b]
   . exact ih (by omega)
theorem GL (l : List Int) (N n i : Nat) (hi : i < l.length) (hn : l.getD i 0 = (n : Int) + 1) (hN : n < N) : (di l N).getD (pl l n + many l ((n : Int) + 1) i) 0 = (i : Int) := by
  induction N with
  | zero => omega
  | succ N ih =>
    by_cases e : n = N
    . subst e
      simp only [di]
      rw [← pq]
      exact KH l _ _ _ i hi hn
    . simp only [di]
      have hlt := oY hn l.length hi
      have hmono : pl l (n + 1) ≤ pl l N := by
        have : ∀ a b, a ≤ b → pl l a ≤ pl l b := by
          intro a b hab
          induction b with
          | zero => have : a = 0 := by omega
                    rw [this]; exact a0a _
          | succ b ihb =>
            by_cases e2 : a = b + 1
            . rw [e2]; exact a0a _
            . have := ihb (by omega)
              simp only [pl]; omega
        exact this _ _ (by omega)
      have hp : pl l (n + 1) = pl l n + many l ((n : Int) + 1) l.length := rfl
      rw [KJ _ _ _ _ _ (by rw [pq]; omega)]
      exact ih (by omega)
theorem Ma(l:List Int)(n:Int)(k t:Nat)(h:t<many l n k):∃i,i<k/\l.getD i 0=n/\many l n i=t:=by
 induction k with
 | zero=>simp[many]at h
 | succ k ih=>
  simp only[many]at h
  split at h
  case isTrue hn=>
   by_cases e:t=many l n k
   . exact⟨k,a0i _,hn,e.symm⟩
   . obtain⟨i,b,a,h2⟩:=ih (by omega);exact⟨i,by omega,a,h2⟩
  case isFalse=>
   obtain⟨i,b,a,h2⟩:=ih h;exact⟨i,by omega,a,h2⟩
def fnd(L G num:Nat):Nat->Nat
 | 0=>0
 | k+1=>if num<(stF L G (k+1)).1 then fnd L G num k else k+1
theorem gG(L G num k:Nat):fnd L G num k<=k:=by
 induction k with
 | zero=>exact a0a _
 | succ k ih=>simp only[fnd];split<;>omega
theorem I1{num:Nat}(h:num<(stF L G (k+1)).1):fnd L G num (k+1)=fnd L G num k:=by simp only[fnd];rw[a0e h]
theorem I2{num:Nat}(h:¬ num<(stF L G k).1):fnd L G num k=k:=by
 cases k with
 | zero=>rfl
 | succ k=>simp only[fnd];rw[a0d h]
theorem qy(e:L<=3)(a:1<=G)(b:G<=4)(f:k/G<=15):(stF L G k).1<=200000/\(stF L G k).2<=14:=by
 unfold stF
 split
 . simp only;omega
 .
  have c:p2 (k/G-1)<=p2 14:=a0N (by omega) (by omega);have h2:p2 14=16384:=by decide
  have d:(G+k%G)*p2 (k/G-1)<=8*16384:=Nat.mul_le_mul (by have:=a03 k a;omega) (by omega);simp only;omega
theorem qf{x:Value}(h:w.heap[b]?=some (Obj.cells #[x,y] t))(u v:Value):((w.setCell ⟨b,0,none⟩ u).setCell ⟨b,1,none⟩ v).heap[b]?=some (Obj.cells #[u,v] t):=by
 have a:(w.setCell ⟨b,0,none⟩ u).heap[b]?=some (Obj.cells #[u,y] t):=by
  show(w.heap.modify b _)[b]?=_;rw[Array.getElem?_modify,a0e rfl,h];simp
 generalize w.setCell ⟨b,0,none⟩ u=W at *
 show(W.heap.modify b _)[b]?=_;rw[Array.getElem?_modify,a0e rfl,a];simp
theorem mT{x:Value}(h:w.heap[b]?=some (Obj.cells #[x,y] t)):w.frozen? ⟨b,0,none⟩=false/\w.frozen? ⟨b,1,none⟩=false:=⟨by simp[World.frozen?,h],by simp[World.frozen?,h]⟩
theorem yW(L G M num:Nat)(w:World)(O:L<=3)(N:1<=G)(r:G<=4)(P:1<=M)(hM:M<=30)(l:(M-1)/G<=15)(z:L<=num)(hn:num<=1000) :
  Ds 217 #[.agg #[.int .i64 (L:Nat),.int .i64 (G:Nat),.int .i64 (M:Nat)],.int .i64 (num:Nat)] w (.tuple #[.int .i64 (fnd L G num (M-1):Nat),.agg #[.int .i64 ((num:Int)-((stF L G (fnd L G num (M-1))).1:Int)),.int .i64 ((stF L G (fnd L G num (M-1))).2:Nat)]]):=by
 obtain⟨q,hq⟩:∃q,M-1=q:=⟨_,rfl⟩;have ad:(M:Int)-1=(q:Int):=by omega
 have aa:(M:Int)<=30:=by omega
 have ac:(num:Int)<=1000:=by omega
 rw[hq]at l ⊢;have Q:=ae (fun k (t:k<=q) W=>AC L G M k W O N r (a0C (Nat.div_le_div_right t) l) (by omega));have V:=ae (fun k (t:k<=q)=>qy (L:=L) (G:=G) (k:=k) O N r (a0C (Nat.div_le_div_right t) l));have U:Hid ((stF L G 0).1=L):=by show _=_;unfold stF;rw[a0e (by omega)];simp
 have Z:=ae z;have x:Hid (((w.alloc (.cells #[.int .i64 (L:Nat),.int .i64 (G:Nat),.int .i64 (M:Nat)] 296)).alloc (.cells #[.int .i64 0,.int .i64 0] 185)).heap[w.heap.size]?=some (Obj.cells #[.int .i64 (L:Nat),.int .i64 (G:Nat),.int .i64 (M:Nat)] 296)):=(a1i _ _ _ (by simp)).trans (alloc_at _ _);have y:Hid (((w.alloc (.cells #[.int .i64 (L:Nat),.int .i64 (G:Nat),.int .i64 (M:Nat)] 296)).alloc (.cells #[.int .i64 0,.int .i64 0] 185)).heap[w.heap.size+1]?=some (Obj.cells #[.int .i64 0,.int .i64 0] 185)):=by
  have e:(w.alloc (.cells #[.int .i64 (L:Nat),.int .i64 (G:Nat),.int .i64 (M:Nat)] 296)).heap.size=w.heap.size+1:=by simp
  have:=alloc_at (w.alloc (.cells #[.int .i64 (L:Nat),.int .i64 (G:Nat),.int .i64 (M:Nat)] 296)) (.cells #[.int .i64 0,.int .i64 0] 185);rw[e]at this;exact this
 have H:Hid (Below w.heap.size w ((w.alloc (.cells #[.int .i64 (L:Nat),.int .i64 (G:Nat),.int .i64 (M:Nat)] 296)).alloc (.cells #[.int .i64 0,.int .i64 0] 185))):=((a0c _ w).alloc (a0a _) _).alloc (by simp) _;clear O N r P hM l z hn hq;go_enter func217,ntmps217;go_wp2_with fail;refine(ab Q q (a0a _) _).mono ?_;rintro e x1 ⟨rfl,a⟩;have m:Hid (x1.heap[w.heap.size]?=some (Obj.cells #[.int .i64 (L:Nat),.int .i64 (G:Nat),.int .i64 (M:Nat)] 296)):=(a.block _ (dh (ab x))).trans (ab x);have o:Hid (x1.heap[w.heap.size+1]?=some (Obj.cells #[.int .i64 0,.int .i64 0] 185)):=(a.block _ (dh (ab y))).trans (ab y);have I:=ae (ai (ab H) a);clear a;go_wp2_with fail
 go_loopw [6,7,8] (fun s f b wr=>∃k:Nat,k<=q/\s = .int .i64 k/\f = .int .i64 ((stF L G k).1:Nat)/\b = .int .i64 ((stF L G k).2:Nat)/\fnd L G num q=fnd L G num k/\Below x1.heap.size x1 wr) (fun s _ _ _=>(intOf s).toNat)
 case atStart=>exact⟨q,a0a _,rfl,rfl,rfl,rfl,a0c _ _⟩
 case round=>
  obtain⟨k,t,rfl,rfl,rfl,R,g⟩:=hrel;have D:=ae R;obtain⟨a,d⟩:=ab V k t;have n:=(g.block _ (dh (ab m))).trans (ab m);have h:=(g.block _ (dh (ab o))).trans (ab o);obtain⟨c0,c1,c2,_⟩:=oM n;obtain⟨d0,d1,_⟩:=da h;obtain⟨f0,f1⟩:=mT h;have K:=ae (ai (ab I) g);clear R;by_cases i:num<(stF L G k).1
  .
   obtain⟨j,rfl⟩:∃j,k=j+1:=by
    cases k with
    | zero=>rw[ab U]at i;have:=ab Z;omega
    | succ j=>exact⟨j,rfl⟩
   have A:=ae (I1 i);have c:(num:Int)<((stF L G (j+1)).1:Int):=by omega
   have S:j<=q:=by omega
   have Y:=ae (ab Q j S);obtain⟨u,hu⟩:∃u:Nat,j+1=u:=⟨_,rfl⟩;have al:(u:Int)-1=(j:Int):=by omega
   rw[hu]at c A D a d ⊢;generalize stF L G u=E at *
   obtain⟨E1,E2⟩:=E;simp only at c a d ⊢;have T:(u:Int)<=31:=by omega
   clear i hu a d t;go_wp2_with fail;refine(ab Y _).mono ?_;rintro e x2 ⟨rfl,d⟩;go_wp2;go_roundw
   case rel=>exact⟨j,S,by go_num,rfl,rfl,by rw[ab D,ab A],ai g d⟩
   case measure=>simp[intOf];omega
  .
   have C:=ae (I2 i);have c:((stF L G k).1:Int)<=(num:Int):=by omega
   have F:Hid (fnd L G num q=k):=by show _=_;rw[ab D,ab C]
   obtain⟨E1,E2,hE⟩:∃E1 E2,stF L G k=(E1,E2):=⟨_,_,rfl⟩;have X:=ae hE;rw[hE]at c a d ⊢;simp only at c a d ⊢;have B:=ae (qf h (.int .i64 ((num:Int)-(E1:Int))) (.int .i64 (E2:Nat)));have J:Hid (Below w.heap.size w ((wr.setCell ⟨w.heap.size+1,0,none⟩ (.int .i64 ((num:Int)-(E1:Int)))).setCell ⟨w.heap.size+1,1,none⟩ (.int .i64 (E2:Nat)))):=((ab K).setCell (p:=⟨w.heap.size+1,0,none⟩) (a00 _) _).setCell (p:=⟨w.heap.size+1,1,none⟩) (a00 _) _;clear i t D C hE n h;go_wp2;obtain⟨z0,z1,_⟩:=da (ab B);refine a0F (v:=.tuple #[.int .i64 (k:Nat),.agg #[.int .i64 ((num:Int)-(E1:Int)),.int .i64 (E2:Nat)]]) (by simp[results,results217,go_sem,z0,z1]) rfl ⟨?_,ab J⟩;rw[ab F,ab X]
def np(i:Nat):Int:=if i<144 then 8 else if i<256 then 9 else if i<280 then 7 else 8
def cX(k:Nat):List Int:=(List.range k).map np
theorem cG(k:Nat):(cX k).length=k:=by simp[cX]
theorem mP(k:Nat):cX (k+1)=cX k++[np k]:=by simp[cX,a3F]
theorem qX(w:World) :
  Calls prog 124 #[] w fun e w'=>∃v,e = .returned v/\am w' w.heap.size v (List.replicate 32 5)/\Below w.heap.size w w':=by
 obtain⟨i0,x,q,r,s⟩:=a0p Tryz.infoInt;have o:Hid (am (w.alloc (.cells #[] 3)) w.heap.size (.slice (some ⟨w.heap.size,0,none⟩) 0 0) []):=am.lit _ _ (a0a _);have m:Hid (Below w.heap.size w (w.alloc (.cells #[] 3))):=(a0c _ _).alloc (a0a _) _;go_enter func124,ntmps124;go_wp2_with fail
 go_loopw [1,2] (fun v i wr=>∃k:Nat,k<=32/\i = .int .i64 k/\am wr w.heap.size v (List.replicate k 5)/\Below w.heap.size w wr) (fun _ i _=>32-(intOf i).toNat)
 case atStart=>exact⟨0,a0g _,rfl,ab o,ab m⟩
 case round=>
  obtain⟨k,A,rfl,hq,a⟩:=hrel;have c:Hid ((List.replicate k (5:Int)).length=k):=a0A;obtain⟨va,vc,rfl⟩:=hq.formN (ab c);have y:(k:Int)<=32:=by omega
  by_cases z:k<32
  .
   have u:(k:Int)<32:=by omega
   have p:Hid (List.replicate k (5:Int)++[5]=List.replicate (k+1) 5):=by show _=_;rw[a24]
   have t:Hid (k+1<=maxLen/\(k+1)*8<=140737488355328):=by show _/\_;unfold maxLen;omega
   have l:=ae (hq.own (ab c));have g:=a.size;have f:=ae a;clear hq a;go_wp2_with (at_builtin;refine a0r _ rfl _ _ 137 rfl w.heap.size 3 i0 (.int .i64 0) 1 8 a0D x q r s rfl (by decide) (.slice va k vc) _ _ rfl (a0j (ab l) _) ⟨wr.heap.size,0,none⟩ 1 1 [.int .i64 5] rfl rfl (bC _ _ rfl _ _) (ew _) (ab t).1 (ab t).2 (an g _) ?_;intro v' x2 d b h;clear h);have n:=aB (v:=.slice va k vc) b (ab l) (a0a _) g (ab f);have j:=cY (ab c) d;rw[ab p]at j;clear d b;go_wp2;go_roundw
   case rel=>exact⟨k+1,by omega,by go_num,j,n⟩
   case measure=>simp[intOf];omega
  .
   obtain rfl:k=32:=by omega
   go_wp2;go_ret;exact⟨_,rfl,hq,a⟩
theorem qY(w:World) :
  Calls prog 123 #[] w fun e w'=>∃v,e = .returned v/\am w' w.heap.size v (cX 288)/\Below w.heap.size w w':=by
 obtain⟨i0,t,p,q,r⟩:=a0p Tryz.infoInt;have x:Hid (am (w.alloc (.cells #[] 3)) w.heap.size (.slice (some ⟨w.heap.size,0,none⟩) 0 0) (cX 0)):=am.lit _ _ (a0a _);have u:Hid (Below w.heap.size w (w.alloc (.cells #[] 3))):=(a0c _ _).alloc (a0a _) _;go_enter func123,ntmps123;go_wp2_with fail
 go_loopw [1,2] (fun v i wr=>∃k:Nat,k<=288/\i = .int .i64 k/\am wr w.heap.size v (cX k)/\Below w.heap.size w wr) (fun _ i _=>288-(intOf i).toNat)
 case atStart=>exact⟨0,a0g _,rfl,ab x,ab u⟩
 case round=>
  obtain⟨k,D,rfl,hq,o⟩:=hrel;have f:=ae (cG k);obtain⟨va,vc,rfl⟩:=hq.formN (ab f);have z:(k:Int)<=288:=by omega
  by_cases A:k<288
  .
   have y:(k:Int)<288:=by omega
   have s:Hid (k+1<=maxLen/\(k+1)*8<=140737488355328):=by show _/\_;unfold maxLen;omega
   have h:=ae (hq.own (ab f));have g:=o.size;have n:=ae o;clear hq o;by_cases B:(k:Int)<144
   .
    have j:Hid (np k=8):=by show _=_;unfold np;rw[a0e (by omega)]
    have m:Hid (cX k++[8]=cX (k+1)):=by show _=_;rw[mP,ab j]
    go_wp2_with (at_builtin;refine a0r _ rfl _ _ 137 rfl w.heap.size 3 i0 (.int .i64 0) 1 8 a0D t p q r rfl (by decide) (.slice va k vc) _ _ rfl (a0j (ab h) _) ⟨wr.heap.size,0,none⟩ 1 1 [.int .i64 8] rfl rfl (bC _ _ rfl _ _) (ew _) (ab s).1 (ab s).2 (an g _) ?_;intro v' x2 b a c;clear c);have l:=aB (v:=.slice va k vc) a (ab h) (a0a _) g (ab n);have d:=cY (ab f) b;rw[ab m]at d;clear b a;go_wp2;go_roundw
    case rel=>exact⟨k+1,by omega,by go_num,d,l⟩
    case measure=>simp[intOf];omega
   .
    by_cases h2:(k:Int)<256
    .
     have j:Hid (np k=9):=by show _=_;unfold np;rw[a0d (by omega),a0e (by omega)]
     have m:Hid (cX k++[9]=cX (k+1)):=by show _=_;rw[mP,ab j]
     go_wp2_with (at_builtin;refine a0r _ rfl _ _ 137 rfl w.heap.size 3 i0 (.int .i64 0) 1 8 a0D t p q r rfl (by decide) (.slice va k vc) _ _ rfl (a0j (ab h) _) ⟨wr.heap.size,0,none⟩ 1 1 [.int .i64 9] rfl rfl (bC _ _ rfl _ _) (ew _) (ab s).1 (ab s).2 (an g _) ?_;intro v' x2 b a c;clear c);have l:=aB (v:=.slice va k vc) a (ab h) (a0a _) g (ab n);have d:=cY (ab f) b;rw[ab m]at d;clear b a;go_wp2;go_roundw
     case rel=>exact⟨k+1,by omega,by go_num,d,l⟩
     case measure=>simp[intOf];omega
    .
     by_cases C:(k:Int)<280
     .
      have j:Hid (np k=7):=by show _=_;unfold np;rw[a0d (by omega),a0d (by omega),a0e (by omega)]
      have m:Hid (cX k++[7]=cX (k+1)):=by show _=_;rw[mP,ab j]
      go_wp2_with (at_builtin;refine a0r _ rfl _ _ 137 rfl w.heap.size 3 i0 (.int .i64 0) 1 8 a0D t p q r rfl (by decide) (.slice va k vc) _ _ rfl (a0j (ab h) _) ⟨wr.heap.size,0,none⟩ 1 1 [.int .i64 7] rfl rfl (bC _ _ rfl _ _) (ew _) (ab s).1 (ab s).2 (an g _) ?_;intro v' x2 b a c;clear c);have l:=aB (v:=.slice va k vc) a (ab h) (a0a _) g (ab n);have d:=cY (ab f) b;rw[ab m]at d;clear b a;go_wp2;go_roundw
      case rel=>exact⟨k+1,by omega,by go_num,d,l⟩
      case measure=>simp[intOf];omega
     .
      have j:Hid (np k=8):=by show _=_;unfold np;rw[a0d (by omega),a0d (by omega),a0d (by omega)]
      have m:Hid (cX k++[8]=cX (k+1)):=by show _=_;rw[mP,ab j]
      go_wp2_with (at_builtin;refine a0r _ rfl _ _ 137 rfl w.heap.size 3 i0 (.int .i64 0) 1 8 a0D t p q r rfl (by decide) (.slice va k vc) _ _ rfl (a0j (ab h) _) ⟨wr.heap.size,0,none⟩ 1 1 [.int .i64 8] rfl rfl (bC _ _ rfl _ _) (ew _) (ab s).1 (ab s).2 (an g _) ?_;intro v' x2 b a c;clear c);have l:=aB (v:=.slice va k vc) a (ab h) (a0a _) g (ab n);have d:=cY (ab f) b;rw[ab m]at d;clear b a;go_wp2;go_roundw
      case rel=>exact⟨k+1,by omega,by go_num,d,l⟩
      case measure=>simp[intOf];omega
  .
   obtain rfl:k=288:=by omega
   go_wp2;go_ret;exact⟨_,rfl,hq,o⟩
theorem nt(w:World) :
  Ds 216 #[] w (.agg #[.int .i64 3,.int .i64 4,.int .i64 28]):=by
 go_enter func216,ntmps216;go_wp2;refine a0F (v:=.agg #[.int .i64 3,.int .i64 4,.int .i64 28]) (by simp[results,results216,go_sem]) rfl ⟨rfl,(a0c _ w).alloc (a0a _) _⟩
theorem nj(w:World) :
  Ds 218 #[] w (.agg #[.int .i64 1,.int .i64 2,.int .i64 30]):=by
 go_enter func218,ntmps218;go_wp2;refine a0F (v:=.agg #[.int .i64 1,.int .i64 2,.int .i64 30]) (by simp[results,results218,go_sem]) rfl ⟨rfl,(a0c _ w).alloc (a0a _) _⟩
theorem wU(num:Nat)(w:World)(a:3<=num)(b:num<=60) :
  Ds 217 #[.agg #[.int .i64 3,.int .i64 4,.int .i64 28],.int .i64 (num:Nat)] w (.tuple #[.int .i64 (fnd 3 4 num 27:Nat),.agg #[.int .i64 ((num:Int)-((stF 3 4 (fnd 3 4 num 27)).1:Int)),.int .i64 ((stF 3 4 (fnd 3 4 num 27)).2:Nat)]]):=
 yW 3 4 28 num w (by omega) (by omega) (by omega) (by omega) (by omega) (by decide) a (by omega)
theorem wT(num:Nat)(w:World)(a:1<=num)(b:num<=250) :
  Ds 217 #[.agg #[.int .i64 1,.int .i64 2,.int .i64 30],.int .i64 (num:Nat)] w (.tuple #[.int .i64 (fnd 1 2 num 29:Nat),.agg #[.int .i64 ((num:Int)-((stF 1 2 (fnd 1 2 num 29)).1:Int)),.int .i64 ((stF 1 2 (fnd 1 2 num 29)).2:Nat)]]):=
 yW 1 2 30 num w (by omega) (by omega) (by omega) (by omega) (by omega) (by decide) a (by omega)
def uv(l:List ByteArray):List Value:=l.map Value.string
def dr(w:World)(base:Nat)(v:Value)(l:List ByteArray):Prop:=w.ownsRow base 9 1 v l.length (uv l)
theorem dr.form{base:Nat}{l:List ByteArray}(h:dr w base v l):∃a cap,v = .slice a l.length cap:=by
 rcases h.2 with⟨e,b⟩|⟨g,cap,_,e,_⟩
 . exact⟨none,0,by rw[e,b]⟩
 . exact⟨_,cap,e⟩
theorem dr.formN{base:Nat}{l:List ByteArray}(b:l.length=n)(h:dr w base v l):∃a cap,v = .slice a n cap:=by
 subst b;exact h.form
theorem dr.own{base:Nat}{l:List ByteArray}(a:l.length=n)(h:dr w base v l):w.ownsRow base 9 1 v n (uv l):=by
 subst a;exact h
theorem dr.at{base:Nat}{cap:Nat}{l:List ByteArray}(f:l.length=n)(h:dr w base (.slice a n cap) l)(i:0<n) :
  ∃g,a=some ⟨g,0,none⟩/\g<w.heap.size/\∀j,j<n->w.cell? ⟨g,j,none⟩=some (.string (l.getD j ByteArray.empty)):=by
 subst f;rcases h.2 with⟨_,e⟩|⟨g,b,c,e,_⟩
 . omega
 . simp only[a0J]at e;obtain⟨rfl,_,rfl⟩:=e;refine⟨g,rfl,(a0w h g rfl).2,fun j d=>?_⟩;rw[a08 h j (by omega)];simp[uv,d,List.getD]
theorem dr.lit(w:World)(base:Nat)(hb:base<=w.heap.size):dr (w.alloc (.cells #[] 9)) base (.slice (some ⟨w.heap.size,0,none⟩) 0 0) []:=a0Y w #[] 0 hb (by unfold maxLen;omega) rfl
theorem kF{base:Nat}{l:List ByteArray}{b:ByteArray}(a:l.length=n)(h:x.ownsRow base 9 1 v (n+1) (uv l++[.string b])):dr x base v (l++[b]):=by
 subst a;show World.ownsRow _ _ _ _ _ (l++[b]).length _;simpa[uv]using h
theorem Tryz.infoStr:(prog.info? 9).map (fun i=>(i.zero,i.size,i.bytes))=some (some (.string ByteArray.empty),1,16):=by kernel_rfl
theorem Et(x:ByteArray):∀u∈[Value.string x],u.oneCell'=true:=by
 intro u a;simp at a;subst a;rfl
theorem BU(s:ByteArray)(w:World):∃(c:Nat) (x:World) (cs:Array Value) (f:Nat×Nat),(convert 9 103 (.string s)).run prog w = .ok (.slice (some ⟨w.heap.size,0,none⟩) s.size c) x/\Below w.heap.size w x/\x.heap[w.heap.size]?=some (.cells cs 5 f)/\∀i (h:i<s.size),cs[i]?=some (.int .u8 (s[i].toNat:Int)):=by
 refine⟨_,_,bytesRow s (grownCap w s.size 0 5),((bytesRow s (grownCap w s.size 0 5)).size,(bytesRow s (grownCap w s.size 0 5)).size+1),run_bytes_of_string w _ _ _ s a1J a0Q a2H,?_,?_,?_⟩
 . exact((a0c _ w).drew).alloc (by simp) _
 . exact Array.getElem?_push_size
 . intro i h;exact bytesRow_at s (grownCap w s.size 0 5) i h
theorem GB{cs:Array Value}(h:w.heap[b]?=some (.cells cs t f))(a:cs[i]?=some v):w.cell? ⟨b,i,none⟩=some v:=by
 unfold World.cell?;rw[h];exact a
section
variable {α : Type} {f : α → List Value} {c : Nat}
theorem vC(a:∀x,(f x).length=c)(l:List α):(l.flatMap f).length=l.length*c:=by
 induction l with
 | nil=>simp
 | cons x l ih=>simp only[a0T,a0k,a,ih,a0E];rw[a1t,a2I,a2w]
theorem flat_get(a:∀x,(f x).length=c)(l:List α)(d:α)(i j:Nat)(e:i<l.length)(g:j<c):(l.flatMap f)[i*c+j]?=(f (l.getD i d))[j]?:=by
 induction l generalizing i with
 | nil=>simp at e
 | cons x l ih=>
  simp only[a0T];cases i with
  | zero=>rw[Nat.zero_mul,a0G,List.getElem?_append_left (by rw[a];exact g)];simp
  | succ i=>
   have b:i<l.length:=by simpa using e
   have e1:(i+1)*c+j=c+(i*c+j):=by rw[a1t,a2I];omega
   rw[List.getElem?_append_right (by rw[a,e1];omega),a,e1,a2b,ih i b];simp
def setMany(w:World)(g:Nat):Nat->List Value->World
 | _,[]=>w
 | o,v :: vs=>setMany (w.setCell ⟨g,o,none⟩ v) g (o+1) vs
def GC(xs:List Value):Nat->List Value->List Value
 | _,[]=>xs
 | o,v :: vs=>GC (xs.set o v) (o+1) vs
theorem Mq(vs xs:List Value)(o:Nat)(h:o+vs.length<=xs.length):GC xs o vs=xs.take o++vs++xs.drop (o+vs.length):=by
 induction vs generalizing xs o with
 | nil=>simp[GC]
 | cons v vs ih=>
  simp only[a0E]at h;rw[GC,ih _ _ (by rw[a1L];omega)];have e1:(xs.set o v).take (o+1)=xs.take o++[v]:=by
   rw[List.take_set];apply List.ext_getElem?;intro i;by_cases b:i<o
   . simp[List.getElem?_set,List.getElem?_append,List.getElem?_take,b];rw[a0d (by omega),a0e (by omega),a0e (by omega)]
   .
    by_cases a:i=o
    . subst a;simp[List.getElem?_set,List.getElem?_append,a0v];rw[a0e (by omega),a0d (by omega),show i-min i xs.length=0 by omega];rfl
    . rw[List.getElem?_eq_none (by simp;omega),List.getElem?_eq_none (by simp;omega)]
  have e2:(xs.set o v).drop (o+1+vs.length)=xs.drop (o+(vs.length+1)):=by
   rw[List.drop_set,a0e (by omega)]
   congr 1;omega
  rw[e1,e2];simp
theorem I0(a:∀x,(f x).length=c)(l:List α)(j:Nat)(x:α)(e:j<l.length):GC (l.flatMap f) (j*c) (f x)=(l.set j x).flatMap f:=by
 have b:j*c+c<=l.length*c:=by
  have:(j+1)*c<=l.length*c:=a16 c e;rw[a1t,a2I]at this;exact this
 rw[Mq _ _ _ (by rw[vC a,a];exact b)];have g:l=l.take j++l[j] :: l.drop (j+1):=by rw[List.getElem_cons_drop,a1H]
 have h:l.set j x=l.take j++x :: l.drop (j+1):=by rw[List.set_eq_take_append_cons_drop,a0e e]
 have d:(List.flatMap f (l.take j)).length=j*c:=by rw[vC a,a0v,a1h (by omega)]
 rw[h]
 conv=>lhs;rw[g]
 simp only[a2n,a0T];rw[a10 (by omega),a0x (by omega)];rw[←a0L,List.drop_append,a26 (by simp only[a0k,d,a];omega)];simp only[a0k,d,a,Nat.sub_self,a2o,a1u,a0L]
def ce(T:TypeId)(c:Nat)(f:α->List Value)(w:World)(base:Nat)(v:Value)(l:List α):Prop:=w.ownsRow base T c v l.length (l.flatMap f)
variable {T : TypeId}
theorem ce.form{w:World}{base:Nat}{v:Value}{l:List α}(h:ce T c f w base v l):∃a cap,v = .slice a l.length cap/\l.length<=cap/\cap<=maxLen:=by
 rcases h.2 with⟨e,b⟩|⟨g,cap,_,e,_,_,d,h2,_⟩
 . exact⟨none,0,by rw[e,b],by omega,a0g _⟩
 . exact⟨_,cap,e,d,h2⟩
theorem ce.formN{w:World}{base n:Nat}{v:Value}{l:List α}(b:l.length=n)(h:ce T c f w base v l):∃a cap,v = .slice a n cap/\n<=cap/\cap<=maxLen:=by
 subst b;exact h.form
theorem ce.later{w w':World}{base B:Nat}{v:Value}{l:List α}(h:ce T c f w base v l)(hb:Below B w w')(a:w.heap.size<=B):ce T c f w' base v l:=
 a1M h (row:=none) ⟨hb.os,hb.tape,hb.output,hb.size,fun k b _=>hb.block k (by omega)⟩ (by
  cases d:v.ownBlock with
  | none=>exact .inl rfl
  | some k=>exact .inr (by simp))
theorem ce.mono{w:World}{base base':Nat}{v:Value}{l:List α}(h:ce T c f w base v l)(hb:base'<=base):ce T c f w base' v l:=by
 refine⟨h.1,?_⟩;rcases h.2 with d|⟨g,cap,a,e,b,rest⟩
 . exact .inl d
 . exact .inr ⟨g,cap,a,e,a0C hb b,rest⟩
theorem ce.own{w:World}{base n:Nat}{v:Value}{l:List α}(a:l.length=n)(h:ce T c f w base v l):w.ownsRow base T c v n (l.flatMap f):=by
 subst a;exact h
theorem ce.somes{w:World}{base cap n:Nat}{a:Option Addr}{l:List α}(h:ce T c f w base (.slice a n cap) l)(i:0<l.length):∃g,a=some ⟨g,0,none⟩:=by
 rcases h.2 with⟨_,e⟩|⟨g,b,d,e,_⟩
 . omega
 . simp only[a0J]at e;exact⟨g,e.1⟩
theorem ce.below{w:World}{base cap n g:Nat}{l:List α}(h:ce T c f w base (.slice (some ⟨g,0,none⟩) n cap) l):base<=g/\g<w.heap.size:=a0w h g rfl
theorem ce.at(b:∀x,(f x).length=c){w:World}{base g cap n:Nat}{l:List α}(d:α)(k:l.length=n)(h:ce T c f w base (.slice (some ⟨g,0,none⟩) n cap) l)(i j:Nat)(a:i<n)(e:j<c) :
  w.cell? ⟨g,i*c+j,none⟩=(f (l.getD i d))[j]?/\w.frozen? ⟨g,i*c+j,none⟩=false:=by
 subst k;refine⟨?_,a2m h _⟩;rw[←flat_get b l d i j a e];refine a08 h _ ?_;have:(i+1)*c<=l.length*c:=a16 c a;rw[a1t,a2I]at this;omega
theorem Ak{w:World}{base g cap n:Nat}{xs:List Value}(vs:List Value)(o:Nat)(h:w.ownsRow base T c (.slice (some ⟨g,0,none⟩) n cap) n xs):(setMany w g o vs).ownsRow base T c (.slice (some ⟨g,0,none⟩) n cap) n (GC xs o vs):=by
 induction vs generalizing w o xs with
 | nil=>exact h
 | cons v vs ih=>exact ih (o+1) (a1X h o v).1
theorem ce.put(a:∀x,(f x).length=c){w:World}{base g cap n:Nat}{l:List α}(d:l.length=n)(h:ce T c f w base (.slice (some ⟨g,0,none⟩) n cap) l)(j:Nat)(b:j<n)(x:α) :
  ce T c f (setMany w g (j*c) (f x)) base (.slice (some ⟨g,0,none⟩) n cap) (l.set j x):=by
 subst d;have:=Ak (f x) (j*c) h;rw[I0 a l j x b]at this;show World.ownsRow _ _ _ _ _ (l.set j x).length _;rw[a1L];exact this
theorem ce.nil(w:World)(base:Nat):ce T c f w base (.slice none 0 0) []:=a04 _ _ _ _
theorem ce.snoc{x:World}{base n:Nat}{v:Value}{l:List α}{a:α}(b:l.length=n)(h:x.ownsRow base T c v (n+1) (l.flatMap f++f a)):ce T c f x base v (l++[a]):=by
 subst b;show World.ownsRow _ _ _ _ _ (l++[a]).length _;simpa using h
theorem uG(l:List α)(d:α)(k:Nat)(h:k<l.length):l.take (k+1)=l.take k++[l.getD k d]:=by
 rw[a1e h]
 congr 2
 simp[List.getD,h]
end
end Go.Proofs.YtchidddpplangaaGreatDoor
namespace Go.Proofs.YtchidddpplangaaGreatDoor
open Go.Proofs.Tryz
open Go.RowKit
variable {B:Nat}{w w':World}
structure cz (B:Nat) (w w':World):Prop where
 below:Below B w w'
 keep:∀k,k<w.heap.size->(∀cur fr,w.heap[k]?≠some (.cells cur 5 fr))->w'.heap[k]?=w.heap[k]?
theorem cz.refl(B:Nat)(w:World):cz B w w:=⟨a0c _ _,fun _ _ _=>rfl⟩
theorem cz.size(h:cz B w w'):w.heap.size<=w'.heap.size:=h.1.size
theorem cz.trans{w1 w2:World}(h:cz B w w1)(k:cz B w1 w2):cz B w w2:=
 ⟨h.1.trans k.1,fun j a b=>(k.2 j (a0m a h.size) (by rw[h.2 j a b];exact b)).trans (h.2 j a b)⟩
theorem cz.alloc(h:cz B w w')(b:B<=w'.heap.size)(o:Obj):cz B w (w'.alloc o):=
 ⟨h.1.alloc b o,fun j a c=>(a1i w' o j (a0m a h.size)).trans (h.2 j a c)⟩
theorem cz.drew(h:cz B w w'):cz B w w'.drew:=⟨h.1.drew,h.2⟩
theorem cz.later{w'':World}(h:cz B w w')(hb:Below w'.heap.size w' w'')(b:B<=w'.heap.size):cz B w w'':=
 ⟨h.1.trans (hb.mono b),fun j a c=>(hb.block j (a0m a h.size)).trans (h.2 j a c)⟩
theorem ik{x y y':World}{o:Obj}{v:Value}{size n base:Nat}{xs:List Value}(f:(y.alloc o).grownBy y' v.ownBlock)(k:y.ownsRow base 5 size v n xs)(b:B<=base)(m:B<=y.heap.size)(hb:cz B x y):cz B x y':=by
 refine⟨aB f k b m hb.1,fun j h i=>?_⟩;have a:=hb.2 j h i;have d:j<y.heap.size:=a0m h hb.size;rw[f.block j (by simp;omega) ?_,a1i y o j d]
 . exact a
 .
  intro e;rcases k.2 with⟨rfl,_⟩|⟨g,cap,l,rfl,_,c,_⟩
  . cases e
  . simp only[Value.ownBlock,a0l]at e;subst e;rw[c]at a;exact i _ _ a.symm
theorem Dg{base size n:Nat}{v:Value}{xs:List Value}(h:w.ownsRow base 5 size v n xs):∀g,v.ownBlock=some g->∃a fr,w.heap[g]?=some (.cells a 5 fr):=by
 intro g e;rcases h.2 with⟨rfl,_⟩|⟨g',cap,a,rfl,_,b,_⟩
 . cases e
 . simp only[Value.ownBlock,a0l]at e;subst e;exact⟨_,_,b⟩
theorem cz.grown{x y y':World}{row:Option Nat}(h:cz B x y)(c:y.grownBy y' row)(i:B<=y.heap.size)(k:∀g,row=some g->B<=g)(l:∀g,row=some g->∃a fr,y.heap[g]?=some (.cells a 5 fr)):cz B x y':=by
 refine⟨h.1.grown c i k,fun j d f=>?_⟩;have b:=h.2 j d f;rw[c.block j (a0m d h.size) ?_]
 . exact b
 . intro e;obtain⟨a,fr,h2⟩:=l j e.symm;rw[h2]at b;exact f _ _ b.symm
theorem ext_list(s:ByteArray)(i j:Nat):(s.extract i j).data.toList=(s.data.toList.drop i).take (j-i):=by
 rw[ByteArray.data_extract,Array.toList_extract]
end Go.Proofs.YtchidddpplangaaGreatDoor
