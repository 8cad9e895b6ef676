/- Of what the proof is made: 22 texts, one behind the other. -/
import Derived.Test.YtbacpebljannfaaGreatDoorM5
import Derived.Lib.AppendZerosOnto
import Derived.Test.YtbacpebljannfaaGreatDoorM6
import Derived.Test.YtbacpebljannfaaGreatDoorM4
import Derived.Laws.IdiomStrings
import Derived.Laws.OwnMore
import Derived.Deep.RegionWith
set_option linter.unusedSimpArgs false
set_option maxHeartbeats 3200000
namespace Go.Proofs.YtbacpebljannfaaGreatDoor
open Go.RowKit Go.Lib
theorem kO(z:Value)(k:Nat):Builtin.zeroCells #[z] k=(List.replicate k z).toArray:=by
 unfold Builtin.zeroCells;apply Array.ext';simp only[a2v,a07,a1I,Nat.mul_one];simp;rw[List.map_const',List.length_range]
theorem kW{P:Program}(w:World)(t tn ty e:TypeId)(i:TypeInfo)(z:Value)(kq kn:IntKind)(ht:P.underlying t=some (.slice e))(htn:P.underlying tn=some (.int kn))(hi:P.info? e=some i)(hz:i.zero=some z)
  (g sLen sCap:Nat) (cur:Array Value) (hg:w.heap[g]?=some (.cells cur e (0,0))) (k:Nat) (h0:0<k) (hs:i.size=1) (hzc:z.cells=#[z]) (h1:z.oneCell'=true)
  (hroom:sLen+k<=sCap) (hfit:sLen+k<=cur.size) (h63:(k:Int)<=9223372036854775807) (h48:k*i.bytes<=281474976710656) :
  (Builtin.append_ #[t,tn] ty #[.slice (some ⟨g,0,none⟩) sLen sCap,.int kq k]).run P w =
   .ok (.slice (some ⟨g,0,none⟩) (sLen+k) sCap) (w.setRow g (cur.toList.take sLen++List.replicate k z++cur.toList.drop (sLen+k)).toArray):=by
 have hk:k≠0:=by omega
 have hw:IntKind.i64.wrap (k:Int)=k:=by rw[a2w];omega
 have h48i:¬ (281474976710656<(k:Int)*(i.bytes:Int)):=by
  rw[←a2U];omega
 have hneg:¬ ((k:Int)<0):=by omega
 have hst:=run_storeCells_at P g sLen e (List.replicate k z) 0 cur w hg (by simpa using hfit) (by intro u hu;rw[List.eq_of_mem_replicate hu];exact h1);simp only[a1p,a0A]at hst;simp[Builtin.append_,a1H ht,a1H htn,sizeOf,typeInfo,zeroValue,hi,hz,asInt,asIntOf,hw,hneg,h48i,hs,hk,hroom,hzc,kO,Addr.add_lit,hst]
theorem lN{P:Program}(w:World)(base:Nat)(t tn ty e:TypeId)(i:TypeInfo)(z:Value)(bytes:Nat)(kq kn:IntKind)(ht:P.underlying t=some (.slice e))(htn:P.underlying tn=some (.int kn))(hi:P.info? e=some i)(hz:i.zero=some z)
  (hs:i.size=1) (hby:i.bytes=bytes) (hzc:z.cells=#[z]) (h1:z.oneCell'=true) (v:Value) (n:Nat) (xs:List Value) (hown:w.ownsRow base e 1 v n xs) (k:Nat) (h0:0<k)
  (h63:n+k<=maxLen) (hbytes:(n+k)*bytes<=140737488355328) (hbase:base<=w.heap.size) :
  ∃v' w',(Builtin.append_ #[t,tn] ty #[v,.int kq k]).run P w = .ok v' w'/\w'.ownsRow base e 1 v' (n+k) (xs++List.replicate k z)/\w.grownBy w' v.ownBlock:=by
 subst hby;have hsmall:n+k<=9223372036854775807:=by simp only[maxLen]at h63;omega
 have hlen:(xs++List.replicate k z).length=(n+k)*1:=by rw[a0m,hown.1,a0A];omega
 have hkb:k*i.bytes<=281474976710656:=by
  have:k*i.bytes<=(n+k)*i.bytes:=a2k _ (by omega);omega
 have grown:∀(old:Nat),old<n+k->∀(row:Option Nat),
   (w.drew.alloc (.cells (xs.toArray++Builtin.zeroCells z.cells k++Builtin.zeroCells z.cells (grownCap w (n+k) old e-(n+k))) e)).ownsRow base e 1
    (.slice (some ⟨w.heap.size,0,none⟩) (n+k) (grownCap w (n+k) old e)) (n+k) (xs++List.replicate k z) /\
   w.grownBy (w.drew.alloc (.cells (xs.toArray++Builtin.zeroCells z.cells k++Builtin.zeroCells z.cells (grownCap w (n+k) old e-(n+k))) e)) row:=by
  intro old ho row;have hge:=grownCap_ge w (n+k) old e;have hcm:grownCap w (n+k) old e<=maxLen:=grownCap_le_maxLen w (n+k) old e h63;refine⟨⟨hlen,.inr ⟨w.heap.size,_,_,rfl,hbase,heap_alloc_new w.drew _,hge,hcm,?_,?_⟩⟩,⟨rfl,rfl,rfl,by simp,fun j hj _=>a1h w.drew _ j hj⟩⟩
  · have:=hown.1;simp only[a2d,a2v,hzc,kO,a0A];omega
  · rw[hzc,kO,kO];simp only[Array.toList_append,a0S];rw[←a0S,←hlen];exact List.take_left
 rcases hown.2 with⟨rfl,rfl⟩|⟨g,cap,cur,rfl,hbg,hg,hnc,hcm,hcs,htake⟩
 · have hx:xs=[]:=a2t (by simpa using hown.1);subst hx;have hr:=run_append_grow_zeros (P:=P) w t tn ty e i z kq kn ht htn hi hz none 0 0 [] (run_firstCells_none w.drew i.size 0 0 0) k h0 (by omega) (by omega) (by omega) hkb (a3l (by omega) (by simpa using hbytes));have hgr:=grown 0 (by omega) (Value.ownBlock (.slice none 0 0));exact⟨_,_,hr,hgr.1,hgr.2⟩
 ·
  by_cases hroom:n+k<=cap
  ·
   have hr:=kW (P:=P) w t tn ty e i z kq kn ht htn hi hz g n cap cur hg k h0 hs hzc h1 hroom (by omega) (by omega) hkb;refine⟨_,_,hr,⟨hlen,.inr ⟨g,cap,_,rfl,hbg,setRow_heap w g cur _ e _ hg,hroom,hcm,?_,?_⟩⟩,⟨rfl,rfl,rfl,by simp,fun k _ hk=>setRow_other w g k _ (fun e=>hk (by simp[Value.ownBlock,e]))⟩⟩
   · simp only[a2v,a0m,a0L,a1B,a1i,a0A];omega
   ·
    have ht2:cur.toList.take n=xs:=by simpa using htake
    rw[ht2,←hlen];exact List.take_left
  · have holds:∀j u,xs[j]?=some u->w.drew.cell? ((⟨g,0,none⟩:Addr).add j)=some u:=hown.cells (g:=g) rfl;have hr:=run_append_grow_zeros (P:=P) w t tn ty e i z kq kn ht htn hi hz (some ⟨g,0,none⟩) n cap xs (run_firstCells_some (P:=P) w.drew i.size n ⟨g,0,none⟩ n cap xs (by rw[hs];exact hown.1) holds) k h0 (by omega) (by omega) (by omega) hkb (a3l (by omega) hbytes);have hgr:=grown cap (by omega) (Value.ownBlock (.slice (some ⟨g,0,none⟩) n cap));exact⟨_,_,hr,hgr.1,hgr.2⟩
theorem iu{P:Program}(w:World){ops:Array Oper}{rest:List Oper}{o:Oper}{a:Act}{Q:Exit->Act->World->Prop}(hgd:o.guard=none)(s x:Operand)(t tn:TypeId)
  (ho:o.op = .call { callee:=.builtin .append,args:=#[s,x],argTypes:=#[t,tn] })
  (base:Nat) (e:TypeId) (i:TypeInfo) (z:Value) (bytes:Nat) (kq kn:IntKind) (ht:P.underlying t=some (.slice e)) (htn:P.underlying tn=some (.int kn)) (hi:P.info? e=some i) (hz:i.zero=some z)
  (hs1:i.size=1) (hby:i.bytes=bytes) (hzc:z.cells=#[z]) (h1:z.oneCell'=true) (v:Value) (n:Nat) (xs:List Value) (hs:a.eval s=v) (hown:w.ownsRow base e 1 v n xs) (k:Nat) (hx:a.eval x = .int kq (k:Int)) (h0:0<k)
  (h63:n+k<=maxLen) (hbytes:(n+k)*bytes<=140737488355328) (hbase:base<=w.heap.size)
  (h:∀v' w',w'.ownsRow base e 1 v' (n+k) (xs++List.replicate k z)->w.grownBy w' v.ownBlock->wpList P ops Q rest (a.put o.dst v') w'):wpList P ops Q (o :: rest) a w:=by
 obtain⟨v',w',hr,h2,h3⟩:=lN (P:=P) w base t tn o.type e i z bytes kq kn ht htn hi hz hs1 hby hzc h1 v n xs hown k h0 h63 hbytes hbase;refine wpList_plain hgd fun _ hK=>?_;unfold Oper.wp execOp;simp only[ho,resolve,invoke,builtin,Sem.run_bind,a3m,Result.andThen_ok,List.map_toArray,a0C,a1C,hs,hx,hr];exact hK _ _ (h v' w' h2 h3)
end Go.Proofs.YtbacpebljannfaaGreatDoor
namespace Go.Proofs.YtbacpebljannfaaGreatDoor
open Go.RowKit
theorem Tryz.infoInt:(Tryz.prog.info? 3).map (fun i=>(i.zero,i.size,i.bytes))=some (some (.int .i64 0),1,8):=by kernel_rfl
theorem cn(l:List Int)(k:Nat)(h:k<l.length):l.take (k+1)=l.take k++[l.getD k 0]:=by
 rw[a1d h]
 congr 1
 simp[List.getD,h]
def be(w:World)(a:Option Addr)(l:List Int):Prop:=
 0<l.length->∃g o,a=some ⟨g,o,none⟩/\g<w.heap.size/\∀i,i<l.length->w.cell? ⟨g,o+i,none⟩=some (.int .i64 (l.getD i 0))
theorem be.below{w w':World}{a:Option Addr}{l:List Int}{B:Nat}(h:be w a l)(hB:w.heap.size<=B)(hb:Below B w w'):be w' a l:=by
 intro h0;obtain⟨g,o,e,hg,hc⟩:=h h0;exact⟨g,o,e,a0g hg hb.size,fun i hi=>by rw[←hc i hi];exact hb.cell (p:=⟨g,o+i,none⟩) (by show g<B;omega)⟩
theorem be.later{w w':World}{a:Option Addr}{l:List Int}(h:be w a l)(hb:Below w.heap.size w w'):be w' a l:=h.below (a0a _) hb
def ak(w:World)(base:Nat)(v:Value)(l:List Int):Prop:=w.ownsRow base 3 1 v l.length (l.map (Value.int .i64))
theorem ak.form{w:World}{base:Nat}{v:Value}{l:List Int}(h:ak w base v l):∃a cap,v = .slice a l.length cap:=by
 rcases h.2 with⟨e,h0⟩|⟨g,cap,_,e,_⟩
 · exact⟨none,0,by rw[e,h0]⟩
 · exact⟨_,cap,e⟩
theorem ak.row{w:World}{base:Nat}{a:Option Addr}{cap:Nat}{l:List Int}(h:ak w base (.slice a l.length cap) l):be w a l:=by
 intro h0;rcases h.2 with⟨e,hn⟩|⟨g,cap',cur,e,hb,hg,_⟩
 · omega
 ·
  simp only[a0N]at e;obtain⟨rfl,_,rfl⟩:=e;refine⟨g,0,rfl,(Array.getElem?_eq_some_iff.1 hg).1,fun i hi=>?_⟩;have:=a1V h (g:=g) rfl i (.int .i64 (l.getD i 0)) (by simp[List.getD,hi]);have hadd:(⟨g,0,none⟩:Addr).add i=⟨g,i,none⟩:=by unfold Addr.add;split<;>simp_all
  rw[hadd]at this;rw[a0J];exact this
theorem ak.later{w w':World}{base B:Nat}{v:Value}{l:List Int}(h:ak w base v l)(hb:Below B w w')(hB:w.heap.size<=B):ak w' base v l:=by
 refine⟨h.1,?_⟩;rcases h.2 with hn|⟨g,cap,cur,rfl,hbg,hgg,rest⟩
 · exact .inl hn
 · refine .inr ⟨g,cap,cur,rfl,hbg,?_,rest⟩;have hg:=(Array.getElem?_eq_some_iff.1 hgg).1;rw[hb.block g (by omega)];exact hgg
theorem ak.lit(w:World)(base:Nat)(hb:base<=w.heap.size):ak (w.alloc (.cells #[] 3)) base (.slice (some ⟨w.heap.size,0,none⟩) 0 0) []:=
 a08 w #[] 0 hb (by unfold maxLen;omega) rfl
theorem ak.nil(w:World)(base:Nat):ak w base (.slice none 0 0) []:=a00 _ _ _ _
theorem mg{x:World}{base:Nat}{v:Value}{l:List Int}{a:Int}(h:x.ownsRow base 3 1 v (l.length+1) (l.map (Value.int .i64)++[.int .i64 a])):ak x base v (l++[a]):=by
 unfold ak;simpa using h
theorem ak.mono{w:World}{base base':Nat}{v:Value}{l:List Int}(h:ak w base v l)(hb:base'<=base):ak w base' v l:=by
 refine⟨h.1,?_⟩;rcases h.2 with hn|⟨g,cap,cur,rfl,hbg,rest⟩
 · exact .inl hn
 · exact .inr ⟨g,cap,cur,rfl,by omega,rest⟩
theorem aF{x y y':World}{o:Obj}{v:Value}{e:TypeId}{size n B base:Nat}{xs:List Value}(hg:(y.alloc o).grownBy y' v.ownBlock)(ho:y.ownsRow base e size v n xs)(hbb:B<=base)(hy:B<=y.heap.size)(hb:Below B x y):Below B x y':=
 (hb.alloc hy _).grown hg (by simp;omega) (fun j hj=>a0I hbb (a0G (ho.alloc o) j hj).1)
theorem ak.rowN{w:World}{base n:Nat}{a:Option Addr}{cap:Nat}{l:List Int}(hn:l.length=n)(h:ak w base (.slice a n cap) l):be w a l:=by
 subst hn;exact h.row
theorem ak.formN{w:World}{base n:Nat}{v:Value}{l:List Int}(hn:l.length=n)(h:ak w base v l):∃a cap,v = .slice a n cap:=by
 subst hn;exact h.form
theorem ak.own{w:World}{base n:Nat}{v:Value}{l:List Int}(hn:l.length=n)(h:ak w base v l):w.ownsRow base 3 1 v n (l.map (Value.int .i64)):=by
 subst hn;exact h
theorem fG{x:World}{base n:Nat}{v:Value}{l:List Int}{a:Int}(hn:l.length=n)(h:x.ownsRow base 3 1 v (n+1) (l.map (Value.int .i64)++[.int .i64 a])):ak x base v (l++[a]):=by
 subst hn;exact mg h
theorem ak.put{w:World}{base g cap n j:Nat}{l:List Int}(hn:l.length=n)(h:ak w base (.slice (some ⟨g,0,none⟩) n cap) l)(x:Int) :
  ak (w.setCell ⟨g,j,none⟩ (.int .i64 x)) base (.slice (some ⟨g,0,none⟩) n cap) (l.set j x):=by
 subst hn;have:=a1X h j (.int .i64 x);show World.ownsRow _ _ _ _ _ (l.set j x).length ((l.set j x).map (Value.int .i64));rw[a1J];have e:(l.set j x).map (Value.int .i64)=(l.map (Value.int .i64)).set j (.int .i64 x):=by simp[List.map_set]
 rw[e];exact this.1
theorem ak.at{w:World}{base g cap n j:Nat}{l:List Int}(hn:l.length=n)(h:ak w base (.slice (some ⟨g,0,none⟩) n cap) l)(hj:j<n) :
  w.cell? ⟨g,j,none⟩=some (.int .i64 (l.getD j 0))/\w.frozen? ⟨g,j,none⟩=false/\base<=g/\g<w.heap.size:=by
 subst hn;refine⟨?_,a2y h j,a0G h g rfl⟩;rw[a04 h j (by omega)];simp[hj,List.getD]
theorem ak.somes{w:World}{base cap n:Nat}{a:Option Addr}{l:List Int}(h:ak w base (.slice a n cap) l)(hl:0<l.length):∃g,a=some ⟨g,0,none⟩:=by
 rcases h.2 with⟨_,e⟩|⟨g,cap',cur,e,_⟩
 · omega
 · simp only[a0N]at e;exact⟨g,e.1⟩
theorem ak.below{w:World}{base cap n g:Nat}{l:List Int}(h:ak w base (.slice (some ⟨g,0,none⟩) n cap) l):base<=g/\g<w.heap.size:=a0G h g rfl
def Touch(a:Option Addr)(w w':World):Prop:=w'.heap.size=w.heap.size/\∀j,(∀g,a=some ⟨g,0,none⟩->j≠g)->w'.heap[j]?=w.heap[j]?
theorem Touch.refl(a:Option Addr)(w:World):Touch a w w:=⟨rfl,fun _ _=>rfl⟩
theorem Touch.set{a:Option Addr}{w w':World}{g o:Nat}(h:Touch a w w')(ha:a=some ⟨g,0,none⟩)(u:Value):Touch a w (w'.setCell ⟨g,o,none⟩ u):=
 ⟨by simpa using h.1,fun j hj=>(a0O w' ⟨g,o,none⟩ u j (hj g ha)).trans (h.2 j hj)⟩
theorem ak.touch{w w':World}{a:Option Addr}{base:Nat}{v:Value}{l:List Int}(h:ak w base v l)(ht:Touch a w w')(hne:∀g,a=some ⟨g,0,none⟩->g<base):ak w' base v l:=by
 refine⟨h.1,?_⟩;rcases h.2 with hn|⟨g,cap,cur,rfl,hbg,hgg,rest⟩
 · exact .inl hn
 · refine .inr ⟨g,cap,cur,rfl,hbg,?_,rest⟩;rw[ht.2 g (fun g' e=>by have:=hne g' e;omega)];exact hgg
theorem sN{w:World}{b1 b2 e1 e2 s1 s2 n1 n2:Nat}{v1 v2:Value}{x1 x2:List Value}(h1:w.ownsRow b1 e1 s1 v1 n1 x1)(h2:w.ownsRow b2 e2 s2 v2 n2 x2)(he:e1≠e2):v1.ownBlock=none∨v1.ownBlock≠v2.ownBlock:=by
 rcases h1.2 with⟨rfl,_⟩|⟨g,cap,cur,rfl,_,hg,_⟩
 · exact .inl rfl
 ·
  refine .inr ?_;rcases h2.2 with⟨rfl,_⟩|⟨g',cap',cur',rfl,_,hg',_⟩
  · simp[Value.ownBlock]
  · simp only[Value.ownBlock,ne_eq,a0j];rintro rfl;rw[hg]at hg';simp only[a0j,a3n]at hg';exact he hg'.2.1
theorem az{B:Nat}{w:World}(h:B<=w.heap.size)(o:Obj):B<=(w.alloc o).heap.size:=by simp;omega
theorem cX(W:World)(g:Nat)(hg:W.heap.size=g)(x:Value)(t:TypeId):∀(j:Nat) (u:Value),[x][j]?=some u->(W.alloc (.cells #[x] t)).cell? ((⟨g,0,none⟩:Addr).add j)=some u:=by
 subst hg;intro j u hj
 match j,hj with
 | 0,hj=>simp at hj;subst hj;simp[Addr.add]
theorem fC(x:Int):∀u∈[Value.int .i64 x],u.oneCell'=true:=by
 intro u hu;simp at hu;subst hu;rfl
theorem ay{w1:World}{base g n:Nat}(h:w1.ownsRow base 3 1 (.slice (some ⟨g,0,none⟩) n n) n (madeCells (Value.int .i64 0).cells (n*1)).toList):ak w1 base (.slice (some ⟨g,0,none⟩) n n) (List.replicate n 0):=by
 have e:(madeCells (Value.int .i64 0).cells (n*1)).toList=(List.replicate n (0:Int)).map (Value.int .i64):=by
  apply a2e
  · simp[madeCells]
  · intro i h1 h2;simp[madeCells,Value.cells,a1I]
 show World.ownsRow _ _ _ _ _ (List.replicate n (0:Int)).length _;rw[a0A,←e];exact h
theorem ak.setOther{w:World}{base g g' o n c:Nat}{l:List Int}(h:ak w base (.slice (some ⟨g,0,none⟩) n c) l)(hg:g'≠g)(u:Value):ak (w.setCell ⟨g',o,none⟩ u) base (.slice (some ⟨g,0,none⟩) n c) l:=by
 refine⟨h.1,?_⟩;rcases h.2 with hn|⟨g1,cap,cur,e,hbg,hgg,rest⟩
 · exact .inl hn
 · refine .inr ⟨g1,cap,cur,e,hbg,?_,rest⟩;simp only[a0N,a0j,a0y,a0Q]at e;rw[a0O w ⟨g',o,none⟩ u g1 (by show g1≠g';omega)];exact hgg
theorem ak.under{w w':World}{base B g n c:Nat}{l:List Int}(h:ak w base (.slice (some ⟨g,0,none⟩) n c) l)(hb:Below B w w')(hg:g<B):ak w' base (.slice (some ⟨g,0,none⟩) n c) l:=by
 refine⟨h.1,?_⟩;rcases h.2 with hn|⟨g1,cap,cur,e,hbg,hgg,rest⟩
 · exact .inl hn
 · refine .inr ⟨g1,cap,cur,e,hbg,?_,rest⟩;simp only[a0N,a0j,a0y,a0Q]at e;rw[hb.block g1 (by omega)];exact hgg
theorem ak.setUnder{w:World}{base b o:Nat}{v:Value}{l:List Int}(h:ak w base v l)(hb:b<base)(u:Value):ak (w.setCell ⟨b,o,none⟩ u) base v l:=
 a2f h (a:=⟨b,o,none⟩) hb u
def dE(l:List UInt8):List Value:=l.map fun x=>Value.int .u8 (x.toNat:Int)
def cx(w:World)(base:Nat)(v:Value)(l:List UInt8):Prop:=w.ownsRow base 5 1 v l.length (dE l)
theorem cx.form{w:World}{base:Nat}{v:Value}{l:List UInt8}(h:cx w base v l):∃a cap,v = .slice a l.length cap:=by
 rcases h.2 with⟨e,h0⟩|⟨g,cap,_,e,_⟩
 · exact⟨none,0,by rw[e,h0]⟩
 · exact⟨_,cap,e⟩
theorem cx.formN{w:World}{base n:Nat}{v:Value}{l:List UInt8}(hn:l.length=n)(h:cx w base v l):∃a cap,v = .slice a n cap:=by
 subst hn;exact h.form
theorem cx.own{w:World}{base n:Nat}{v:Value}{l:List UInt8}(hn:l.length=n)(h:cx w base v l):w.ownsRow base 5 1 v n (dE l):=by
 subst hn;exact h
theorem cx.later{w w':World}{base B:Nat}{v:Value}{l:List UInt8}(h:cx w base v l)(hb:Below B w w')(hB:w.heap.size<=B):cx w' base v l:=
 a1Y h (row:=none) ⟨hb.os,hb.tape,hb.output,hb.size,fun k hk _=>hb.block k (by omega)⟩ (by
  cases hv:v.ownBlock with
  | none=>exact .inl rfl
  | some k=>exact .inr (by simp))
theorem cx.mono{w:World}{base base':Nat}{v:Value}{l:List UInt8}(h:cx w base v l)(hb:base'<=base):cx w base' v l:=by
 refine⟨h.1,?_⟩;rcases h.2 with hn|⟨g,cap,cur,e,hbg,rest⟩
 · exact .inl hn
 · exact .inr ⟨g,cap,cur,e,a0I hb hbg,rest⟩
theorem cx.somes{w:World}{base cap n:Nat}{a:Option Addr}{l:List UInt8}(h:cx w base (.slice a n cap) l)(hl:0<l.length):∃g,a=some ⟨g,0,none⟩:=by
 rcases h.2 with⟨_,e⟩|⟨g,cap',cur,e,_⟩
 · omega
 · simp only[a0N]at e;exact⟨g,e.1⟩
theorem cx.at{w:World}{base g cap n j:Nat}{l:List UInt8}(hn:l.length=n)(h:cx w base (.slice (some ⟨g,0,none⟩) n cap) l)(hj:j<n) :
  w.cell? ⟨g,j,none⟩=some (.int .u8 ((l.getD j 0).toNat:Int))/\base<=g/\g<w.heap.size:=by
 subst hn;refine⟨?_,a0G h g rfl⟩;rw[a04 h j (by omega)];simp[dE,hj,List.getD]
theorem cx.nil(w:World)(base:Nat):cx w base (.slice none 0 0) []:=a00 _ _ _ _
theorem cx.lit(w:World)(base:Nat)(hb:base<=w.heap.size):cx (w.alloc (.cells #[] 5)) base (.slice (some ⟨w.heap.size,0,none⟩) 0 0) []:=a08 w #[] 0 hb (by unfold maxLen;omega) rfl
theorem jF{x:World}{base n:Nat}{v:Value}{l:List UInt8}{b:UInt8}(hn:l.length=n)(h:x.ownsRow base 5 1 v (n+1) (dE l++[.int .u8 (b.toNat:Int)])):cx x base v (l++[b]):=by
 subst hn;show World.ownsRow _ _ _ _ _ (l++[b]).length _;simpa[dE]using h
theorem Tryz.infoU8:(Tryz.prog.info? 5).map (fun i=>(i.zero,i.size,i.bytes))=some (some (.int .u8 0),1,1):=by kernel_rfl
theorem one_byte(x:Int):∀u∈[Value.int .u8 x],u.oneCell'=true:=by
 intro u hu;simp at hu;subst hu;rfl
theorem cx.text{w:World}{base:Nat}{v:Value}{l:List UInt8}(h:cx w base v l) :
  (convert 33 9 v).run Tryz.prog w = .ok (.string ⟨l.toArray⟩) w:=by
 rcases h.2 with⟨e,h0⟩|⟨g,cap,cur,e,_⟩
 · have hl:l=[]:=a2t h0;subst hl;rw[e];rw[run_convert_bytes_string w _ _ _ none 0 0 a05 a1Z a10];rfl
 ·
  rw[e];exact a3o w _ _ _ ⟨g,0,none⟩ cap l a05 a1Z a10 (fun j hj=>by
   have:=a1V h (g:=g) (by rw[e];rfl) j (.int .u8 (l[j].toNat:Int)) (by simp[dE,hj]);exact this)
def mQ(w:World)(a:Option Addr)(l:List (Int×Int)):Prop:=
 0<l.length->∃g o,a=some ⟨g,o,none⟩/\g<w.heap.size/\∀i,i<l.length->w.cell? ⟨g,o+i*2,none⟩=some (.int .i64 (l.getD i (0,0)).1)/\w.cell? ⟨g,o+i*2+1,none⟩=some (.int .i64 (l.getD i (0,0)).2)
theorem mQ.later{w w':World}{a:Option Addr}{l:List (Int×Int)}(h:mQ w a l)(hb:Below w.heap.size w w'):mQ w' a l:=by
 intro h0;obtain⟨g,o,e,hlt,hc⟩:=h h0;refine⟨g,o,e,a0g hlt hb.size,fun i hi=>⟨?_,?_⟩⟩
 · exact(hb.cell (p:=⟨g,o+i*2,none⟩) hlt).trans (hc i hi).1
 · exact(hb.cell (p:=⟨g,o+i*2+1,none⟩) hlt).trans (hc i hi).2
def aQ:List (Int×Int)->List Value
 | []=>[]
 | p :: l=>.int .i64 p.1 :: .int .i64 p.2 :: aQ l
theorem dk(l:List (Int×Int)):(aQ l).length=l.length*2:=by
 induction l with
 | nil=>rfl
 | cons p l ih=>simp only[aQ,a0E,ih];omega
theorem ec(l m:List (Int×Int)):aQ (l++m)=aQ l++aQ m:=by
 induction l with
 | nil=>rfl
 | cons p l ih=>simp[aQ,ih]
theorem zY(l:List (Int×Int))(i:Nat)(h:i<l.length):(aQ l)[i*2]?=some (.int .i64 (l.getD i (0,0)).1)/\(aQ l)[i*2+1]?=some (.int .i64 (l.getD i (0,0)).2):=by
 induction l generalizing i with
 | nil=>simp at h
 | cons p l ih=>
  cases i with
  | zero=>simp[aQ]
  | succ i=>
   have:=ih i (by simpa using h);rw[show(i+1)*2=i*2+1+1 by omega];simpa[aQ]using this
def Pcs(w:World)(base:Nat)(v:Value)(l:List (Int×Int)):Prop:=w.ownsRow base 114 2 v l.length (aQ l)
theorem Pcs.form{w:World}{base:Nat}{v:Value}{l:List (Int×Int)}(h:Pcs w base v l):∃a cap,v = .slice a l.length cap:=by
 rcases h.2 with⟨e,h0⟩|⟨g,cap,_,e,_⟩
 · exact⟨none,0,by rw[e,h0]⟩
 · exact⟨_,cap,e⟩
theorem Pcs.row{w:World}{base:Nat}{a:Option Addr}{cap:Nat}{l:List (Int×Int)}(h:Pcs w base (.slice a l.length cap) l):mQ w a l:=by
 intro h0;rcases h.2 with⟨_,h1⟩|⟨g,cap',cur,e,hb,hg,hr⟩
 · omega
 · simp only[a0N]at e;obtain⟨rfl,_,rfl⟩:=e;refine⟨g,0,rfl,(Array.getElem?_eq_some_iff.1 hg).1,fun i hi=>?_⟩;have hp:=zY l i hi;have c1:=a04 h (i*2) (by omega);have c2:=a04 h (i*2+1) (by omega);rw[a0J];exact⟨c1.trans hp.1,c2.trans hp.2⟩
theorem Pcs.later{w w':World}{base B:Nat}{v:Value}{l:List (Int×Int)}(h:Pcs w base v l)(hb:Below B w w')(hB:w.heap.size<=B):Pcs w' base v l:=
 a1Y h (row:=none) ⟨hb.os,hb.tape,hb.output,hb.size,fun k hk _=>hb.block k (by omega)⟩ (by
  cases hv:v.ownBlock with
  | none=>exact .inl rfl
  | some k=>exact .inr (by simp))
theorem Tryz.infoPiece:(Tryz.prog.info? 114).map (fun i=>(i.zero,i.size,i.bytes))=some (some (.agg #[.int .i64 0,.int .i64 0]),2,16):=by kernel_rfl
theorem Pcs.news{w:World}{base g cap:Nat}{l:List (Int×Int)}(h:Pcs w base (.slice (some ⟨g,0,none⟩) l.length cap) l):∀j u,(aQ l)[j]?=some u->w.cell? ((⟨g,0,none⟩:Addr).add j)=some u:=
 a1V h rfl
theorem cB(l:List (Int×Int)):∀u∈aQ l,u.oneCell'=true:=by
 induction l with
 | nil=>intro u hu;simp[aQ]at hu
 | cons p l ih=>
  intro u hu;simp only[aQ,a06]at hu;rcases hu with rfl|rfl|hu
  · rfl
  · rfl
  · exact ih u hu
theorem lH{x:World}{base:Nat}{v:Value}{l:List (Int×Int)}{a b:Int}(h:x.ownsRow base 114 2 v (l.length+1) (aQ l++[.int .i64 a,.int .i64 b])):Pcs x base v (l++[(a,b)]):=by
 show World.ownsRow _ _ _ _ _ (l++[(a,b)]).length _;rw[ec];simpa[aQ]using h
theorem DC{x:World}{base n:Nat}{v:Value}{l:List (Int×Int)}{a b:Int}(hn:l.length=n)(h:x.ownsRow base 114 2 v (n+1) (aQ l++[.int .i64 a,.int .i64 b])):Pcs x base v (l++[(a,b)]):=by
 subst hn;exact lH h
theorem Pcs.formN{w:World}{base n:Nat}{v:Value}{l:List (Int×Int)}(hn:l.length=n)(h:Pcs w base v l):∃a cap,v = .slice a n cap:=by
 subst hn;exact h.form
theorem Pcs.own{w:World}{base n:Nat}{v:Value}{l:List (Int×Int)}(hn:l.length=n)(h:Pcs w base v l):w.ownsRow base 114 2 v n (aQ l):=by
 subst hn;exact h
theorem Pcs.rowN{w:World}{base n:Nat}{a:Option Addr}{cap:Nat}{l:List (Int×Int)}(hn:l.length=n)(h:Pcs w base (.slice a n cap) l):mQ w a l:=by
 subst hn;exact h.row
theorem Pcs.newsN{w:World}{base g cap n:Nat}{l:List (Int×Int)}(hn:l.length=n)(h:Pcs w base (.slice (some ⟨g,0,none⟩) n cap) l):∀j u,(aQ l)[j]?=some u->w.cell? ((⟨g,0,none⟩:Addr).add j)=some u:=by
 subst hn;exact h.news
theorem qK(w:World)(x y:Value)(t:TypeId):∀(j:Nat) (u:Value),[x,y][j]?=some u->(w.alloc (.cells #[x,y] t)).cell? ((⟨w.heap.size,0,none⟩:Addr).add j)=some u:=by
 intro j u hj
 match j,hj with
 | 0,hj=>simp at hj;subst hj;simp[Addr.add]
 | 1,hj=>simp at hj;subst hj;simp[Addr.add]
theorem qJ(x y:Int):∀u∈[Value.int .i64 x,Value.int .i64 y],u.oneCell'=true:=by
 intro u hu;simp at hu;rcases hu with rfl|rfl<;>rfl
end Go.Proofs.YtbacpebljannfaaGreatDoor
namespace Go.Proofs.YtbacpebljannfaaGreatDoor
open Go.RowKit Corb
def bj(l:List (Int×Int)):Bool:=l.all (fun p=>pOk p.1 p.2)
theorem yR(l:List (Int×Int))(k:Nat)(h:k<l.length):bj (l.take (k+1))=(bj (l.take k)&&pOk (l.getD k (0,0)).1 (l.getD k (0,0)).2):=by
 rw[a1d h,bj,a1K]
 congr 1
 simp[List.getD,h]
theorem sR{l:List (Int×Int)}{k:Nat}(h:bj (l.take k)=false):bj l=false:=by
 rw[←a2P]at h ⊢;intro h2;apply h;simp only[bj,a1j]at h2 ⊢;intro x hx;exact h2 x (a12 hx)
def bX(l:List (Int×Int)):Int:=(l.map (·.2)).sum
def lOk(l:List (Int×Int)):Bool:=bj l&&decide (l.length<=4000)
def oh(l:List (Int×Int)):Int:=if lOk l=true then bX l else -1
theorem tS{l:List (Int×Int)}(h:lOk l=true):oh l=bX l:=a0d h
theorem rQ{l:List (Int×Int)}(h:lOk l=false):oh l = -1:=a0e (by simp[h])
theorem Gx(l:List (Int×Int))(k:Nat)(h:k<l.length):bX (l.take (k+1))=bX (l.take k)+(l.getD k (0,0)).2:=by
 rw[a1d h,bX,a0K,List.sum_append];simp[bX,List.getD,h]
theorem Am{l:List (Int×Int)}(h:bj l=true):0<=bX l/\bX l<=16*(l.length:Int):=by
 induction l with
 | nil=>simp[bX]
 | cons p l ih=>
  simp only[bj,a1L,a0n]at h;have h1:=aV.1 h.1;have h2:=ih h.2;simp only[bX,a0C,a0R,a0E]at h2 ⊢;omega
theorem BK{l:List (Int×Int)}(h:bj l=true)(k:Nat)(hk:k<l.length):pOk (l.getD k (0,0)).1 (l.getD k (0,0)).2=true:=by
 simp only[bj,a1j]at h;have e:l.getD k (0,0)=l[k]:=by simp[List.getD,hk]
 rw[e];exact h _ (a2o hk)
theorem kP{l:List (Int×Int)}(h:bj l=true)(k:Nat):bj (l.take k)=true:=by
 simp only[bj,a1j]at h ⊢;exact fun x hx=>h x (a12 hx)
theorem gp(a:Option Addr)(cap:Nat)(l:List (Int×Int))(w:World)(h:mQ w a l)(hm:l.length<=1000000000) :
  Calls Tryz.prog 87 #[.slice a l.length cap] w fun e w'=>e = .returned (.int .i64 (oh l))/\Below w.heap.size w w':=by
 have hm':(l.length:Int)<=1000000000:=by omega
 by_cases h4:(l.length:Int)<=4000
 ·
  go_enter Tryz.func87,Tryz.ntmps87;go_wp2_with fail
  go_loopw [3,5,11] (fun n _ i wr=>∃k:Nat,k<=l.length/\i = .int .i64 k/\n = .int .i64 (bX (l.take k))/\bj (l.take k)=true/\Below w.heap.size w wr) (fun _ _ i _=>l.length-(intOf i).toNat)
  case atStart=>exact⟨0,a0l _,rfl,rfl,rfl,a0c _ _⟩
  case round=>
   obtain⟨k,hk,rfl,rfl,hall,hbel⟩:=hrel;obtain⟨s0,s1⟩:=Am hall;have s2:((l.take k).length:Int)<=4000:=by simp;omega
   have s3:bX (l.take k)<=64000:=by omega
   by_cases hlt:k<l.length
   ·
    obtain⟨g,o,rfl,hg,hc⟩:=(h.later hbel) (by omega);obtain⟨c0,c1⟩:=hc k hlt;have hs:=af (Gx l k hlt);have ha:=af (yR l k hlt);have hall':=af hall;clear hc h hall s1 s2;generalize (l.getD k (0,0)).1=x at *
    generalize (l.getD k (0,0)).2=y at *
    cases hp:pOk x y
    ·
     have HF:Hid (oh l = -1):=rQ (by
      have:bj l=false:=sR (k:=k+1) (by rw[ae ha,hp];simp);simp[lOk,this])
     generalize bX (l.take k)=S at *
     go_wp2_with (go_at_call 115;refine(ja _ _ _).mono ?_;rintro e w1 ⟨rfl,hb1⟩);go_ret;exact⟨aH (ae HF).symm,(hbel.alloc hbel.size _).trans (hb1.mono (by have:=hbel.size;simp;omega))⟩
    ·
     obtain⟨⟨y0,y1⟩,_⟩:=aV.1 hp;generalize bX (l.take k)=S at *
     go_wp2_with (go_at_call 115;refine(ja _ _ _).mono ?_;rintro e w1 ⟨rfl,hb1⟩;have cy:w1.cell? ⟨wr.heap.size,1,none⟩=some (.int .i64 y):=(hb1.cell (p:=⟨wr.heap.size,1,none⟩) (by simp)).trans (by simp));go_roundw
     case rel=>exact⟨k+1,by omega,by go_num,by rw[ae hs],by rw[ae ha,ae hall',hp];rfl,(hbel.alloc hbel.size _).trans (hb1.mono (by have:=hbel.size;simp;omega))⟩
     case measure=>simp[intOf];omega
   ·
    have HE:Hid (oh l=bX (l.take k)):=by
     rw[a0F (by omega)]at hall ⊢;exact tS (by simp[lOk,hall];omega)
    clear h hall;go_wp2;go_ret;exact⟨aH (ae HE).symm,hbel⟩
 · have HI:Hid (oh l = -1):=rQ (by simp[lOk];omega);go_enter Tryz.func87,Tryz.ntmps87;go_wp2;go_ret;exact⟨aH (ae HI).symm,a0c _ _⟩
end Go.Proofs.YtbacpebljannfaaGreatDoor
namespace Go.Proofs.YtbacpebljannfaaGreatDoor
open Go.RowKit
def bw(t:TypeId)(w w':World):Prop:=∀(k:Nat) (c:Array Value) (f:Nat×Nat),w.heap[k]?=some (Obj.cells c t f)->w'.heap[k]?=some (Obj.cells c t f)
theorem bw.refl(t:TypeId)(w:World):bw t w w:=fun _ _ _ h=>h
theorem bw.trans{t:TypeId}{w w1 w2:World}(h:bw t w w1)(k:bw t w1 w2):bw t w w2:=fun j c f hj=>k j c f (h j c f hj)
theorem dr{w:World}{k:Nat}{o:Obj}(h:w.heap[k]?=some o):k<w.heap.size:=(Array.getElem?_eq_some_iff.1 h).1
theorem bw.below{t:TypeId}{w w':World}(h:Below w.heap.size w w'):bw t w w':=fun j _ _ hj=>(h.block j (dr hj)).trans hj
theorem bw.alloc{t:TypeId}{w w':World}(h:bw t w w')(o:Obj):bw t w (w'.alloc o):=fun j c f hj=>(a1h w' o j (dr (h j c f hj))).trans (h j c f hj)
theorem bw.drew{t:TypeId}{w w':World}(h:bw t w w'):bw t w w'.drew:=h
theorem bw.set{t t':TypeId}{w w':World}{g o:Nat}{c:Array Value}{f:Nat×Nat}(h:bw t w w')(hg:w'.heap[g]?=some (.cells c t' f))(hne:t≠t')(u:Value):bw t w (w'.setCell ⟨g,o,none⟩ u):=by
 intro j c' f' hj;have h1:=h j c' f' hj;rw[a0O w' ⟨g,o,none⟩ u j (by
  show j≠g;rintro rfl;rw[hg]at h1;simp only[a0j,a3n]at h1;exact hne h1.2.1.symm)]
 exact h1
theorem bw.own{t:TypeId}{w w':World}{base size n:Nat}{v:Value}{xs:List Value}(h:bw t w w')(ho:w.ownsRow base t size v n xs):w'.ownsRow base t size v n xs:=by
 refine⟨ho.1,?_⟩;rcases ho.2 with hn|⟨g,cap,cur,rfl,hbg,hgg,rest⟩
 · exact .inl hn
 · exact .inr ⟨g,cap,cur,rfl,hbg,h g _ _ hgg,rest⟩
theorem Dr{w:World}{base size n g cap:Nat}{e:TypeId}{a:Addr}{xs:List Value}(h:w.ownsRow base e size (.slice (some a) n cap) n xs)(ha:a=⟨g,0,none⟩):∃c,w.heap[g]?=some (.cells c e):=by
 subst ha;rcases h.2 with⟨hn,_⟩|⟨g',cap',cur,e',_,hgg,_⟩
 · cases hn
 · simp only[a0N,a0j,a0y,a0Q]at e';obtain⟨rfl,_,_⟩:=e';exact⟨_,hgg⟩
theorem bw.touch{t t':TypeId}{w w':World}{g:Nat}{c:Array Value}{f:Nat×Nat}(hg:w.heap[g]?=some (.cells c t' f))(hne:t≠t')(ht:Touch (some ⟨g,0,none⟩) w w'):bw t w w':=by
 intro j c' f' hj;rw[ht.2 j (fun g' e=>by
  simp only[a0j,a0y,a0Q]at e;subst e;rintro rfl;rw[hg]at hj;simp only[a0j,a3n]at hj;exact hne hj.2.1.symm)]
 exact hj
theorem bw.grown{t t':TypeId}{w w1 w2:World}{base size n:Nat}{v:Value}{xs:List Value}(h:bw t w w1)(ho:w1.ownsRow base t' size v n xs)(hne:t≠t')(hg:w1.grownBy w2 v.ownBlock):bw t w w2:=by
 intro j c f hj;have h1:=h j c f hj;rw[hg.block j (dr h1) (by
  intro e;rcases ho.2 with⟨rfl,_⟩|⟨g,cap,cur,rfl,_,hgg,_⟩
  · cases e
  · simp only[Value.ownBlock,a0j]at e;subst e;rw[hgg]at h1;simp only[a0j,a3n]at h1;exact hne h1.2.1.symm)]
 exact h1
theorem wP{w:World}{b:Nat}{x y z:Value}{t:TypeId}(h:w.heap[b]?=some (Obj.cells #[x,y,z] t)):w.cell? ⟨b,0,none⟩=some x/\w.cell? ⟨b,1,none⟩=some y/\w.cell? ⟨b,2,none⟩=some z/\b<w.heap.size:=
 ⟨by simp[World.cell?,h],by simp[World.cell?,h],by simp[World.cell?,h],(Array.getElem?_eq_some_iff.1 h).1⟩
theorem di{w:World}{b:Nat}{x y:Value}{t:TypeId}(h:w.heap[b]?=some (Obj.cells #[x,y] t)):w.cell? ⟨b,0,none⟩=some x/\w.cell? ⟨b,1,none⟩=some y/\b<w.heap.size:=
 ⟨by simp[World.cell?,h],by simp[World.cell?,h],(Array.getElem?_eq_some_iff.1 h).1⟩
theorem alloc_at(w:World)(o:Obj):(w.alloc o).heap[w.heap.size]?=some o:=Array.getElem?_push_size
end Go.Proofs.YtbacpebljannfaaGreatDoor
namespace Go.Proofs.YtbacpebljannfaaGreatDoor
open Go.RowKit Corb
def krN(b:Int):Nat:=if 0<b then p2 (15-b).toNat else 0
def kr(l:List Int):Nat:=(l.map krN).sum
def us(l:List Int):Nat:=(l.map (fun b=>if 0<b then 1 else 0)).sum
def inL(l:List Int):Bool:=l.all (fun b=>inB b 0 15)
def nE(l:List Int):Bool:=decide (kr l=32768) || (decide (us l=1)&&decide (kr l=16384))
def aw(l:List Int):Bool:=inL l&&decide (l.length<=300)&&nE l
theorem A9(l:List Int)(k:Nat)(h:k<l.length):kr (l.take (k+1))=kr (l.take k)+krN (l.getD k 0):=by
 rw[cn l k h];simp[kr]
theorem oF(l:List Int)(k:Nat)(h:k<l.length):us (l.take (k+1))=us (l.take k)+(if 0<l.getD k 0 then 1 else 0):=by
 rw[cn l k h];simp[us]
theorem EW(l:List Int)(k:Nat)(h:k<l.length):inL (l.take (k+1))=(inL (l.take k)&&inB (l.getD k 0) 0 15):=by
 rw[cn l k h];simp[inL]
theorem E6(b:Int):krN b<=32768:=by
 unfold krN
 split
 ·
  have h2:2 ^ (15-b).toNat<=2 ^ 15:=a0T (by omega) (by omega);have h3:(2:Nat) ^ 15=32768:=by decide
  have h4:p2 (15-b).toNat=2 ^ (15-b).toNat:=rfl;omega
 · omega
theorem JQ(l:List Int):kr l<=32768*l.length:=by
 induction l with
 | nil=>simp[kr]
 | cons b l ih=>
  have:=E6 b;simp only[kr,a0C,a0R,a0E]at ih ⊢;omega
theorem qh(l:List Int):us l<=l.length:=by
 induction l with
 | nil=>simp[us]
 | cons b l ih=>
  simp only[us,a0C,a0R,a0E]at ih ⊢
  split<;>omega
theorem AW{l:List Int}{k:Nat}(h:k<l.length)(hn:inB (l.getD k 0) 0 15=false):inL l=false:=by
 rcases hb:inL l with _|_
 · rfl
 · have:=a1j.1 hb (l.getD k 0) (by simp[List.getD,h]);rw[hn]at this;exact absurd this (by simp)
theorem zA(a:Option Addr)(cap n:Nat)(l:List Int)(w:World)(hn:l.length=n)(h:be w a l)(hm:n<=1048576) :
  Calls Tryz.prog 168 #[.slice a n cap] w fun e w'=>e = .returned (.int .i64 (us l:Nat))/\w'=w:=by
 subst hn;have hmI:(l.length:Int)<=1048576:=by omega
 clear hm;go_enter Tryz.func168,Tryz.ntmps168;go_wp2_with fail
 go_loop [3,4] (fun n i=>∃k:Nat,k<=l.length/\i = .int .i64 k/\n = .int .i64 (us (l.take k):Nat)) (fun _ i=>l.length-(intOf i).toNat)
 case atStart=>exact⟨0,a0l _,rfl,rfl⟩
 case round=>
  obtain⟨k,hk,rfl,rfl⟩:=hrel;have HK:=af hk;by_cases hlt:k<l.length
  ·
   obtain⟨g,o,rfl,hg,hc⟩:=h (by omega);have c0:=hc k hlt;have hst:=af (oF l k hlt);have hub:=qh (l.take k);have hub':(us (l.take k):Int)<=1048576:=by
    have:(l.take k).length<=l.length:=by simp;omega
    omega
   clear hc hk h hub;generalize l.getD k 0=y at *
   generalize us (l.take k)=u at *
   by_cases hy:0<y
   ·
    have hst':Hid (us (l.take (k+1))=u+1):=by have:=ae hst;rw[a0d hy]at this;exact this
    go_wp2
    go_round
    case rel=>exact⟨k+1,by omega,by go_num,by rw[ae hst'];go_num⟩
    case measure=>simp[intOf];omega
   ·
    have hst':Hid (us (l.take (k+1))=u):=by have:=ae hst;rw[a0e hy]at this;exact this
    go_wp2
    go_round
    case rel=>exact⟨k+1,by omega,by go_num,by rw[ae hst']⟩
    case measure=>simp[intOf];omega
  · have hlk:Hid (l.take k=l):=a0F (by omega);clear h;go_wp2;go_ret;exact⟨aH (by rw[ae hlk]),rfl⟩
theorem tQ{l:List Int}(h:inL l=false∨300<l.length):aw l=false:=by
 unfold aw;rcases h with h|h
 · simp[h]
 · rw[a0s (by omega)];simp
theorem zG{l:List Int}(h:inL l=true)(hl:l.length<=300):aw l=nE l:=by
 simp[aw,h,hl]
theorem sX(a:Option Addr)(cap n:Nat)(l:List Int)(w:World)(hn:l.length=n)(h:be w a l)(hin:inL l=true)(hm:n<=300) :
  Calls Tryz.prog 232 #[.slice a n cap] w fun e w'=>e = .returned (.bool (nE l))/\w'=w:=by
 subst hn;have hmI:(l.length:Int)<=300:=by omega
 have Hm:=af hm;have Hin:=af hin;clear hm hin;go_enter Tryz.func232,Tryz.ntmps232;go_wp2_with fail
 go_loop [3,4,6,9] (fun u n _ i=>∃k:Nat,k<=l.length/\i = .int .i64 k/\u = .int .i64 (us (l.take k):Nat)/\n = .int .i64 (kr (l.take k):Nat)) (fun _ _ _ i=>l.length-(intOf i).toNat)
 case atStart=>exact⟨0,a0l _,rfl,rfl,rfl⟩
 case round=>
  obtain⟨k,hk,rfl,rfl,rfl⟩:=hrel;have HK:=af hk;have hkb:=JQ (l.take k);have hub:=qh (l.take k);have hkl:(l.take k).length<=l.length:=by simp;omega
  have hkI:(kr (l.take k):Int)<=9830400:=by have:=ae Hm;omega
  have huI:(us (l.take k):Int)<=300:=by omega
  clear hkb hkl hub;by_cases hlt:k<l.length
  ·
   obtain⟨g,o,rfl,hg,hc⟩:=h (by omega);have c0:=hc k hlt;have hst:=af (A9 l k hlt);have hsu:=af (oF l k hlt);have hy:inB (l.getD k 0) 0 15=true:=by
    rcases hb:inB (l.getD k 0) 0 15 with _|_
    · have:=AW hlt hb;rw[ae Hin]at this;exact absurd this (by simp)
    · rfl
   clear hc hk h;generalize l.getD k 0=y at *
   generalize kr (l.take k)=u at *
   generalize us (l.take k)=q at *
   obtain⟨y0,y1⟩:=aG.1 hy;by_cases hp:0<y
   ·
    obtain⟨c,hc⟩:∃c:Nat,15-y=(c:Int):=⟨(15-y).toNat,by omega⟩;have hkn:Hid (krN y=p2 c):=by
     show krN y=p2 c;unfold krN;rw[a0d hp,hc,a0p]
    have hbd:=E6 y;rw[ae hkn]at hbd;have hsu':Hid (us (l.take (k+1))=q+1):=by have:=ae hsu;rw[a0d hp]at this;exact this
    have hc15:(c:Int)<=15:=by omega
    have hp2:(1:Int)*2 ^ c=(p2 c:Int):=by rw[Int.one_mul,jq]
    have hp2':(2:Int) ^ c=(p2 c:Int):=(jq c).symm;generalize p2 c=PW at *
    have hbI:(PW:Int)<=32768:=by omega
    have hw1:IntKind.i64.wrap (15-y)=(c:Int):=by rw[hc];exact cY _ (by omega) (by omega)
    have hw2:IntKind.i64.wrap (PW:Int)=(PW:Int):=cY _ (by omega) (by omega);clear hbd;go_wp2
    go_round
    case rel=>exact⟨k+1,by omega,by go_num,by rw[ae hsu'];go_num,by rw[ae hst,ae hkn];go_num⟩
    case measure=>simp[intOf];omega
   ·
    have hkn:Hid (krN y=0):=a0e hp;have hsu':Hid (us (l.take (k+1))=q):=by have:=ae hsu;rw[a0e hp]at this;exact this
    go_wp2
    go_round
    case rel=>exact⟨k+1,by omega,by go_num,by rw[ae hsu'],by rw[ae hst,ae hkn];rfl⟩
    case measure=>simp[intOf];omega
  ·
   have hlk:l.take k=l:=a0F (by omega);rw[hlk]at hkI huI ⊢;have HW:Hid (nE l=(decide (kr l=32768) || (decide (us l=1)&&decide (kr l=16384)))):=rfl;clear h hlk;generalize kr l=K at *
   generalize us l=U at *
   by_cases h1:K=32768
   · subst h1;go_wp2;go_ret;exact⟨au (by rw[ae HW];rfl),rfl⟩
   ·
    have g1:((K:Int) == 32768)=false:=by simp;omega
    by_cases h3:U=1
    ·
     subst h3;by_cases h2:K=16384
     · subst h2;go_wp2;go_ret;exact⟨au (by rw[ae HW];rfl),rfl⟩
     ·
      have g2:((K:Int) == 16384)=false:=by simp;omega
      go_wp2;go_ret;exact⟨au (by rw[ae HW];simp[h1,h2]),rfl⟩
    ·
     have g3:((U:Int) == 1)=false:=by simp;omega
     go_wp2;go_ret;exact⟨au (by rw[ae HW];simp[h1,h3]),rfl⟩
theorem iJ(a:Option Addr)(cap n:Nat)(l:List Int)(w:World)(hn:l.length=n)(h:be w a l)(hm:n<=1048576) :
  Calls Tryz.prog 226 #[.slice a n cap] w fun e w'=>e = .returned (.bool (aw l))/\w'=w:=by
 subst hn;by_cases hlen:(l.length:Int)<=300
 ·
  clear hm;go_enter Tryz.func226,Tryz.ntmps226;go_wp2_with fail
  go_loopw [4,10] (fun _ i wr=>∃k:Nat,k<=l.length/\i = .int .i64 k/\inL (l.take k)=true/\wr=w) (fun _ i _=>l.length-(intOf i).toNat)
  case atStart=>exact⟨0,a0l _,rfl,rfl,rfl⟩
  case round=>
   obtain⟨k,hk,rfl,hin,rfl⟩:=hrel;have HK:=af hk;have Hin:=af hin;clear hin;by_cases hlt:k<l.length
   ·
    obtain⟨g,o,rfl,hg,hc⟩:=h (by omega);have c0:=hc k hlt;have hit:=af (EW l k hlt);have hget:=af (fun hn=>AW hlt hn);clear hc hk h;generalize l.getD k 0=y at *
    cases hy:inB y 0 15
    ·
     have hno:=af (tQ (a0v (ae hget hy)));rcases fK.1 hy with h0|h0
     · go_wp2;go_ret;exact⟨au (ae hno).symm,rfl⟩
     ·
      have h1:¬ y<0:=by omega
      go_wp2;go_ret;exact⟨au (ae hno).symm,rfl⟩
    ·
     obtain⟨y0,y1⟩:=aG.1 hy;have hit':Hid (inL (l.take (k+1))=true):=by show inL (l.take (k+1))=true;rw[ae hit,ae Hin,hy];rfl
     go_wp2;go_roundw
     case rel=>exact⟨k+1,by omega,by go_num,ae hit',by first|rfl|trivial⟩
     case measure=>simp[intOf];omega
   ·
    have hlk:l.take k=l:=a0F (by omega);have hin:inL l=true:=by have:=ae Hin;rw[hlk]at this;exact this
    have hres:=af (zG hin (by omega));have HU:=af (sX a cap l.length l wr rfl h hin (by omega));clear hlk hin h;go_wp2_with fail;refine(ae HU).mono ?_;rintro e x1 ⟨rfl,rfl⟩;go_wp2;go_ret;exact⟨au (ae hres).symm,rfl⟩
 ·
  have hno:=af (tQ (l:=l) (Or.inr (by omega)));have hmI:(l.length:Int)<=1048576:=by omega
  clear hm h;go_enter Tryz.func226,Tryz.ntmps226;go_wp2;go_ret;exact⟨au (ae hno).symm,rfl⟩
def inn(l:List Int)(n:Int)(s:Nat×List Int):Nat->Nat×List Int
 | 0=>s
 | k+1=>if l.getD k 0=n then((inn l n s k).1+1,(inn l n s k).2.set k ((inn l n s k).1:Int))else inn l n s k
def aI(l:List Int):Nat->Nat×List Int
 | 0=>(0,List.replicate l.length 0)
 | N+1=>inn l ((N:Int)+1) (2*(aI l N).1,(aI l N).2) l.length
theorem mf(l:List Int)(n:Int)(s:Nat×List Int)(k:Nat):(inn l n s k).2.length=s.2.length:=by
 induction k with
 | zero=>rfl
 | succ k ih=>
  simp only[inn]
  split
  · simpa using ih
  · exact ih
theorem bA(l:List Int)(N:Nat):(aI l N).2.length=l.length:=by
 induction N with
 | zero=>simp[aI]
 | succ N ih=>simp only[aI];rw[mf];exact ih
theorem rp(l:List Int)(n:Int)(s:Nat×List Int)(k:Nat):(inn l n s k).1<=s.1+k:=by
 induction k with
 | zero=>exact a0a _
 | succ k ih=>
  simp only[inn]
  split
  · simp only;omega
  · omega
theorem IE(l:List Int)(N:Nat):(aI l N).1+l.length<=2 ^ N*l.length:=by
 induction N with
 | zero=>simp[aI]
 | succ N ih=>
  simp only[aI];have h:=rp l ((N:Int)+1) (2*(aI l N).1,(aI l N).2) l.length;simp only at h;have e:2 ^ (N+1)*l.length=2*(2 ^ N*l.length):=by rw[a1y,a1c (2 ^ N),a1A]
  omega
theorem i6(l:List Int)(N:Nat)(hN:N<=15)(hl:l.length<=300):(aI l N).1<=9830400:=by
 have h:=IE l N;have h2:2 ^ N<=2 ^ 15:=a0T (by omega) hN;have h3:2 ^ N*l.length<=32768*300:=a1u h2 hl;omega
theorem wS(a:Option Addr)(cap n:Nat)(l:List Int)(w:World)(hn:l.length=n)(h:be w a l)(hm:n<=300) :
  Calls Tryz.prog 161 #[.slice a n cap] w fun e w'=>e = .returned (.slice (some ⟨w.heap.size,0,none⟩) n n)/\ak w' w.heap.size (.slice (some ⟨w.heap.size,0,none⟩) n n) (aI l 15).2/\Below w.heap.size w w':=by
 have hm':(n:Int)<=300:=by omega
 obtain⟨i0,hi,hz0,hz1,hz2⟩:=a0w Tryz.infoInt;have Hn:=af hn;have Hm:=af hm;go_enter Tryz.func161,Tryz.ntmps161;go_wp2_with (at_make;refine a1q _ rfl _ _ 84 rfl w.heap.size 3 i0 (.int .i64 0) 1 a0h hi hz0 hz1 .i64 .i64 _ _ n rfl rfl rfl rfl (by rw[hz2];omega) (by unfold maxLen;omega) (a0a _) ?_;intro w1 hown hgrow);have hp0:ak w1 w.heap.size (.slice (some ⟨w.heap.size,0,none⟩) n n) (aI l 0).2:=by
  show ak w1 w.heap.size (.slice (some ⟨w.heap.size,0,none⟩) n n) (List.replicate l.length 0);rw[hn];exact ay hown
 have hb0:Below w.heap.size w w1:=(a0c _ _).grown hgrow (a0a _) (fun k h=>by cases h);clear hown hgrow hi hz0 hz1 hz2 hm hn
 go_loopw [4,5,6] (fun c m _ wr=>∃N:Nat,N<=15/\m = .int .i64 ((N:Int)+1)/\c = .int .i64 (2*(aI l N).1:Nat)/\ak wr w.heap.size (.slice (some ⟨w.heap.size,0,none⟩) n n) (aI l N).2/\Below w.heap.size w wr) (fun _ m _ _=>16-(intOf m).toNat)
 case atStart=>exact⟨0,by omega,rfl,rfl,hp0,hb0⟩
 case round=>
  obtain⟨N,hN,rfl,rfl,hp,hbel⟩:=hrel;clear hp0 hb0;have hbd:=i6 l N hN (by rw[ae Hn];exact ae Hm);have hbI:((2*(aI l N).1:Nat):Int)<=19660800:=by omega
  have hNI:(N:Int)<=15:=by omega
  by_cases hlt:N<15
  ·
   have hN15:(N:Int)<15:=by omega
   have hlen0:Hid ((aI l N).2.length=n):=(bA l N).trans (ae Hn);have hfin:Hid (aI l (N+1)=inn l ((N:Int)+1) (2*(aI l N).1,(aI l N).2) l.length):=rfl;have hnext:=af (i6 l (N+1) (by omega) (by rw[ae Hn];exact ae Hm));generalize hS:((2*(aI l N).1,(aI l N).2):Nat×List Int)=S at *
   have hS1:2*(aI l N).1=S.1:=by rw[←hS]
   have hS2:(aI l N).2=S.2:=by rw[←hS]
   rw[hS1]at hbI ⊢;rw[hS2]at hp hlen0;clear hS hS1 hS2 hbd;go_wp2_with fail
   go_loopw [4,6] (fun c i wr=>∃k:Nat,k<=n/\i = .int .i64 k/\c = .int .i64 ((inn l ((N:Int)+1) S k).1:Nat)/\ak wr w.heap.size (.slice (some ⟨w.heap.size,0,none⟩) n n) (inn l ((N:Int)+1) S k).2/\Below w.heap.size w wr) (fun _ i _=>n-(intOf i).toNat)
   case atStart=>exact⟨0,a0l _,rfl,rfl,hp,hbel⟩
   case round=>
    obtain⟨k,hk,rfl,rfl,hq,hb⟩:=hrel;clear hp hbel;have hlen:Hid ((inn l ((N:Int)+1) S k).2.length=n):=(mf _ _ _ _).trans (ae hlen0);have hle:=rp l ((N:Int)+1) S k;have hleI:((inn l ((N:Int)+1) S k).1:Int)<=19661100:=by have:=ae Hm;omega
    clear hle;by_cases hkn:k<n
    ·
     obtain⟨g,o,rfl,hg,hc⟩:=(h.later hb) (by rw[ae Hn];omega);have c0:=hc k (by rw[ae Hn];exact hkn);obtain⟨d0,f0,_,_⟩:=hq.at (ae hlen) hkn;have hst:Hid (inn l ((N:Int)+1) S (k+1)=if l.getD k 0=(N:Int)+1 then((inn l ((N:Int)+1) S k).1+1,(inn l ((N:Int)+1) S k).2.set k ((inn l ((N:Int)+1) S k).1:Int))else inn l ((N:Int)+1) S k):=rfl;have HK:=af hk;clear hc hk h;generalize l.getD k 0=y at *
     generalize inn l ((N:Int)+1) S k=T at *
     by_cases hy:y=(N:Int)+1
     ·
      have hst':Hid (inn l ((N:Int)+1) S (k+1)=(T.1+1,T.2.set k (T.1:Int))):=by have:=ae hst;rw[a0d hy]at this;exact this
      have hput:=af (hq.put (j:=k) (ae hlen) (T.1:Int));subst hy;generalize T.2.getD k 0=d at *
      go_wp2;go_roundw
      case rel=>exact⟨k+1,by omega,by go_num,by rw[ae hst'];go_num,by rw[ae hst'];exact ae hput,ag hb (a0a _) _⟩
      case measure=>simp[intOf];omega
     ·
      have hst':Hid (inn l ((N:Int)+1) S (k+1)=T):=by have:=ae hst;rw[a0e hy]at this;exact this
      have g1:(y == (N:Int)+1)=false:=by simpa using hy
      go_wp2;go_roundw
      case rel=>exact⟨k+1,by omega,by go_num,by rw[ae hst'],by rw[ae hst'];exact hq,hb⟩
      case measure=>simp[intOf];omega
    ·
     have hkl:k=l.length:=by have:=ae Hn;omega
     subst hkl;rw[←ae hfin]at hq hleI ⊢;have hnI:((aI l (N+1)).1:Int)<=9830400:=by have:=ae hnext;omega
     go_wp2;go_roundw
     case rel=>exact⟨N+1,by omega,by go_num,by go_num,hq,hb⟩
     case measure=>simp[intOf];omega
  ·
   obtain rfl:N=15:=by omega
   go_wp2;go_ret;exact⟨rfl,hp,hbel⟩
def many(l:List Int)(n:Int):Nat->Nat
 | 0=>0
 | k+1=>if l.getD k 0=n then many l n k+1 else many l n k
def syms(l:List Int)(n:Int)(s:List Int):Nat->List Int
 | 0=>s
 | k+1=>if l.getD k 0=n then syms l n s k++[(k:Int)]else syms l n s k
def aW(l:List Int):Nat->List Int
 | 0=>[]
 | N+1=>syms l ((N:Int)+1) (aW l N) l.length
def bL(l:List Int)(N j:Nat):Nat:=if 1<=j/\j<=N then many l (j:Int) l.length else 0
def dD(w:World)(b:Nat)(vl vc vs:Value)(m:Nat->Nat):Prop:=
 w.cell? ⟨b,0,none⟩=some vl/\w.cell? ⟨b,1,none⟩=some vc/\(∀j,j<16->w.cell? ⟨b,2+j,none⟩=some (.int .i64 (m j:Nat)))/\w.cell? ⟨b,18,none⟩=some vs/\(∀o,w.frozen? ⟨b,o,none⟩=false)/\b<w.heap.size
theorem dD.kept{w w':World}{b:Nat}{vl vc vs:Value}{m:Nat->Nat}(h:dD w b vl vc vs m)(hb:Below (b+1) w w'):dD w' b vl vc vs m:=by
 obtain⟨c0,c1,c2,c3,f,hlt⟩:=h;have hs:=a0i b;exact⟨(hb.cell (p:=⟨b,0,none⟩) hs).trans c0,(hb.cell (p:=⟨b,1,none⟩) hs).trans c1,fun j hj=>(hb.cell (p:=⟨b,2+j,none⟩) hs).trans (c2 j hj),(hb.cell (p:=⟨b,18,none⟩) hs).trans c3,fun o=>(hb.frozen (p:=⟨b,o,none⟩) hs).trans (f o),a0g hlt hb.size⟩
theorem dD.other{w:World}{b g o:Nat}{vl vc vs:Value}{m:Nat->Nat}(h:dD w b vl vc vs m)(hg:g≠b)(u:Value):dD (w.setCell ⟨g,o,none⟩ u) b vl vc vs m:=by
 obtain⟨c0,c1,c2,c3,f,hlt⟩:=h;refine⟨?_,?_,fun j hj=>?_,?_,fun o=>by simpa using f o,by simpa using hlt⟩
 · rw[World.cell?_setCell_other _ _ _ _ (by simp only[ne_eq,a0y];omega)];exact c0
 · rw[World.cell?_setCell_other _ _ _ _ (by simp only[ne_eq,a0y];omega)];exact c1
 · rw[World.cell?_setCell_other _ _ _ _ (by simp only[ne_eq,a0y];omega)];exact c2 j hj
 · rw[World.cell?_setCell_other _ _ _ _ (by simp only[ne_eq,a0y];omega)];exact c3
theorem dD.many{w:World}{b i x:Nat}{vl vc vs:Value}{m:Nat->Nat}(h:dD w b vl vc vs m)(hi:i<16):dD (w.setCell ⟨b,2+i,none⟩ (.int .i64 (x:Nat))) b vl vc vs (fun j=>if j=i then x else m j):=by
 obtain⟨c0,c1,c2,c3,f,hlt⟩:=h;refine⟨?_,?_,fun j hj=>?_,?_,fun o=>by simpa using f o,by simpa using hlt⟩
 · rw[World.cell?_setCell_other _ _ _ _ (by simp only[ne_eq,a0y];omega)];exact c0
 · rw[World.cell?_setCell_other _ _ _ _ (by simp only[ne_eq,a0y];omega)];exact c1
 ·
  by_cases e:j=i
  · subst e;rw[World.cell?_setCell_same _ _ _ (c2 j hj)];simp
  · rw[World.cell?_setCell_other _ _ _ _ (by simp only[ne_eq,a0y];omega)];simp only[a0e e];exact c2 j hj
 · rw[World.cell?_setCell_other _ _ _ _ (by simp only[ne_eq,a0y];omega)];exact c3
theorem dD.sorted{w:World}{b:Nat}{vl vc vs:Value}{m:Nat->Nat}(h:dD w b vl vc vs m)(u:Value):dD (w.setCell ⟨b,18,none⟩ u) b vl vc u m:=by
 obtain⟨c0,c1,c2,c3,f,hlt⟩:=h;refine⟨?_,?_,fun j hj=>?_,World.cell?_setCell_same _ _ _ c3,fun o=>by simpa using f o,by simpa using hlt⟩
 · rw[World.cell?_setCell_other _ _ _ _ (by simp only[ne_eq,a0y];omega)];exact c0
 · rw[World.cell?_setCell_other _ _ _ _ (by simp only[ne_eq,a0y];omega)];exact c1
 · rw[World.cell?_setCell_other _ _ _ _ (by simp only[ne_eq,a0y];omega)];exact c2 j hj
theorem rS(l:List Int)(n:Int)(k:Nat):many l n k<=k:=by
 induction k with
 | zero=>exact a0a _
 | succ k ih=>simp only[many];split<;>omega
theorem nd(l:List Int)(N:Nat):(fun j=>if j=N+1 then many l ((N:Int)+1) l.length else bL l N j)=bL l (N+1):=by
 funext j
 unfold bL;by_cases e:j=N+1
 ·
  subst e;rw[a0d rfl,a0d ⟨by omega,by omega⟩]
  congr 1
 ·
  rw[a0e e];by_cases h:1<=j/\j<=N
  · rw[a0d h,a0d ⟨h.1,by omega⟩]
  · rw[a0e h,a0e (by omega)]
theorem nf(l:List Int)(N:Nat):(fun j=>if j=N+1 then many l ((N:Int)+1) 0 else bL l N j)=bL l N:=by
 funext j
 by_cases e:j=N+1
 · subst e;rw[a0d rfl];unfold bL;rw[a0e (by omega)];rfl
 · rw[a0e e]
theorem my(l:List Int)(n:Int)(s:List Int)(k:Nat):(syms l n s k).length<=s.length+k:=by
 induction k with
 | zero=>exact a0a _
 | succ k ih=>
  simp only[syms]
  split
  · simp;omega
  · omega
theorem iN(l:List Int)(N:Nat):(aW l N).length<=N*l.length:=by
 induction N with
 | zero=>simp[aW]
 | succ N ih=>
  have:=my l ((N:Int)+1) (aW l N) l.length;simp only[aW];rw[a1T,Nat.one_mul];omega
def nx(l:List Int):Nat->Nat
 | 0=>0
 | N+1=>2*nx l N+many l ((N:Int)+1) l.length
def pl(l:List Int):Nat->Nat
 | 0=>0
 | N+1=>pl l N+many l ((N:Int)+1) l.length
theorem AX(l:List Int)(n:Int)(s:Nat×List Int)(k:Nat):(inn l n s k).1=s.1+many l n k:=by
 induction k with
 | zero=>rfl
 | succ k ih=>
  simp only[inn,many]
  split
  · simp only[ih];omega
  · exact ih
theorem FM(l:List Int)(N:Nat):(aI l N).1=nx l N:=by
 induction N with
 | zero=>rfl
 | succ N ih=>simp only[aI,nx];rw[AX,ih]
theorem Ik(l:List Int)(n:Int)(s:Nat×List Int)(k i:Nat)(hi:i<s.2.length):(inn l n s k).2.getD i 0=if i<k/\l.getD i 0=n then((s.1+many l n i:Nat):Int)else s.2.getD i 0:=by
 induction k with
 | zero=>simp[inn]
 | succ k ih=>
  simp only[inn]
  split
  case isTrue h=>
   by_cases e:i=k
   ·
    subst e;have hl:i<(inn l n s i).2.length:=by rw[mf];exact hi
    rw[a0d ⟨a0i _,h⟩];simp only[List.getD,List.getElem?_set_self hl,a2W];rw[AX]
   ·
    have e2:((inn l n s k).2.set k ((inn l n s k).1:Int)).getD i 0=(inn l n s k).2.getD i 0:=by
     simp only[List.getD];rw[List.getElem?_set_ne (Ne.symm e)]
    simp only;rw[e2,ih];by_cases h2:i<k
    · simp[h2,Nat.lt_succ_of_lt h2]
    · rw[a0e (by omega),a0e (by omega)]
  case isFalse h=>
   rw[ih];by_cases e:i=k
   · subst e;rw[a0e (by omega),a0e (fun hh=>h hh.2)]
   ·
    by_cases h2:i<k
    · simp[h2,Nat.lt_succ_of_lt h2]
    · rw[a0e (by omega),a0e (by omega)]
def ff(l:List Int)(i:Nat):Nat:=2*nx l ((l.getD i 0).toNat-1)+many l (l.getD i 0) i
theorem xL(l:List Int)(N i:Nat)(hi:i<l.length):(aI l N).2.getD i 0=if 1<=l.getD i 0/\l.getD i 0<=(N:Int)then(ff l i:Int)else 0:=by
 induction N with
 | zero=>
  rw[a0e (by omega)];simp[aI,List.getD,hi]
 | succ N ih=>
  simp only[aI];rw[Ik _ _ _ _ _ (by simp only[bA];exact hi)];simp only;by_cases e:l.getD i 0=(N:Int)+1
  ·
   rw[a0d ⟨hi,e⟩,a0d ⟨by omega,by omega⟩,FM];unfold ff;rw[e];have:((N:Int)+1).toNat-1=N:=by omega
   rw[this]
  ·
   rw[a0e (fun hh=>e hh.2),ih];by_cases h2:1<=l.getD i 0/\l.getD i 0<=(N:Int)
   · rw[a0d h2,a0d ⟨h2.1,by omega⟩]
   · rw[a0e h2,a0e (by omega)]
/-! Kraft's sum, by lengths. -/
def krU(N:Nat)(l:List Int):Nat:=(l.map (fun b=>if 0<b/\b<=(N:Int)then p2 (15-b).toNat else 0)).sum
theorem Jp(N:Nat)(l:List Int):krU N l<=kr l:=by
 induction l with
 | nil=>exact a0a _
 | cons b l ih=>
  simp only[krU,kr,krN,a0C,a0R]at ih ⊢
  split<;>split<;>omega
theorem De(b:Int)(l:List Int)(n:Int)(k:Nat):many (b :: l) n (k+1)=(if b=n then 1 else 0)+many l n k:=by
 induction k with
 | zero=>simp[many]
 | succ k ih=>
  have e:many (b :: l) n (k+1+1)=if (b :: l).getD (k+1) 0=n then many (b :: l) n (k+1)+1 else many (b :: l) n (k+1):=rfl
  have e2:(b :: l).getD (k+1) 0=l.getD k 0:=by simp[List.getD]
  rw[e,e2,ih];simp only[many]
  split<;>split<;>omega
theorem E7(N:Nat)(hN:N<15)(l:List Int):krU (N+1) l=krU N l+many l ((N:Int)+1) l.length*p2 (14-N):=by
 induction l with
 | nil=>simp[krU,many]
 | cons b l ih=>
  rw[a0E,De,a1T];simp only[krU,a0C,a0R]at ih ⊢;rw[ih];by_cases e:b=(N:Int)+1
  ·
   rw[a0d (by omega),a0e (by omega),a0d e];have:(15-b).toNat=14-N:=by omega
   rw[this];omega
  ·
   rw[a0e e];by_cases h:0<b/\b<=(N:Int)
   · rw[a0d h,a0d (by omega)];omega
   · rw[a0e h,a0e (by omega)];omega
theorem JV(l:List Int)(N:Nat)(hN:N<=15):nx l N*p2 (15-N)=krU N l:=by
 induction N with
 | zero=>
  have:krU 0 l=0:=by
   induction l with
   | nil=>rfl
   | cons b l ih=>
    simp only[krU,a0C,a0R]at ih ⊢;rw[ih,a0e (by omega)]
  rw[this];simp[nx]
 | succ N ih=>
  rw[E7 N (by omega),←ih (by omega)];have e1:15-N=(14-N)+1:=by omega
  have e2:15-(N+1)=14-N:=by omega
  rw[e1,e2,i7];simp only[nx];rw[a1T,a1c 2,a1A,a1c 2]
theorem JR{l:List Int}(h:aw l=true):kr l<=32768:=by
 simp only[aw,nE,a0n,a1f,a2q]at h;omega
theorem I7{l:List Int}(h:aw l=true)(N:Nat)(hN:N<=15):nx l N<=p2 N:=by
 have h1:=JV l N hN;have h2:=Jp N l;have h3:=JR h;have e:p2 N*p2 (15-N)=32768:=by
  unfold p2;rw[←a0V];have:N+(15-N)=15:=by omega
  rw[this]
 have hp:=po (15-N);exact Nat.le_of_mul_le_mul_right (by omega:nx l N*p2 (15-N)<=p2 N*p2 (15-N)) hp
theorem vp{l:List Int}{n:Int}{i:Nat}(hi:l.getD i 0=n):∀k,i<k->many l n i<many l n k:=by
 intro k hk;induction k with
 | zero=>omega
 | succ k ih=>
  by_cases e:i=k
  · subst e;simp only[many];rw[a0d hi];omega
  ·
   have:=ih (by omega);simp only[many]
   split<;>omega
theorem ly{l:List Int}(h:inL l=true){i:Nat}(hi:i<l.length):0<=l.getD i 0/\l.getD i 0<=15:=by
 have:=a1j.1 h (l.getD i 0) (by simp[List.getD,hi]);exact aG.1 this
theorem fL{l:List Int}(h:aw l=true):inL l=true:=by
 simp only[aw,a0n]at h;exact h.1.1
theorem tj{l:List Int}(h:aw l=true){i:Nat}(hi:i<l.length)(hp:1<=l.getD i 0):ff l i<p2 (l.getD i 0).toNat/\ff l i<nx l (l.getD i 0).toNat:=by
 obtain⟨_,hb⟩:=ly (fL h) hi;obtain⟨n,hn⟩:∃n:Nat,l.getD i 0=(n:Int)+1:=⟨(l.getD i 0).toNat-1,by omega⟩;have hle:=I7 h (n+1) (by omega);have hm:=vp hn l.length hi;have e1:(l.getD i 0).toNat=n+1:=by omega
 unfold ff;rw[e1,hn];simp only[nx,a3p]at hle ⊢;omega
theorem BW{l:List Int}(h:aw l=true){i:Nat}(hi:i<l.length):(aI l 15).2.getD i 0=if 1<=l.getD i 0 then(ff l i:Int)else 0:=by
 rw[xL l 15 i hi];have:=(ly (fL h) hi).2;by_cases hp:1<=l.getD i 0
 · rw[a0d hp,a0d ⟨hp,by omega⟩]
 · rw[a0e hp,a0e (by omega)]
/-! Symbols in their order. -/
theorem oC(l:List Int)(n:Int)(s:List Int)(k:Nat):(syms l n s k).length=s.length+many l n k:=by
 induction k with
 | zero=>rfl
 | succ k ih=>
  simp only[syms,many]
  split
  · simp[ih];omega
  · exact ih
theorem oB(l:List Int)(N:Nat):(aW l N).length=pl l N:=by
 induction N with
 | zero=>rfl
 | succ N ih=>simp only[aW,pl];rw[oC,ih]
theorem Gz(l:List Int)(n:Int)(s:List Int)(k j:Nat)(hj:j<s.length):(syms l n s k).getD j 0=s.getD j 0:=by
 induction k with
 | zero=>rfl
 | succ k ih=>
  simp only[syms]
  split
  ·
   have hl:j<(syms l n s k).length:=by rw[oC];omega
   rw[←ih];simp only[List.getD];rw[List.getElem?_append_left hl]
  · exact ih
theorem Gy(l:List Int)(n:Int)(s:List Int)(k i:Nat)(hi:i<k)(hn:l.getD i 0=n):(syms l n s k).getD (s.length+many l n i) 0=(i:Int):=by
 induction k with
 | zero=>omega
 | succ k ih=>
  simp only[syms];by_cases e:i=k
  · subst e;rw[a0d hn];simp only[List.getD];rw[List.getElem?_append_right (by rw[oC];omega),oC];simp
  ·
   have hlt:=vp hn k (by omega)
   split
   ·
    have hl:s.length+many l n i<(syms l n s k).length:=by rw[oC];omega
    rw[←ih (by omega)];simp only[List.getD];rw[List.getElem?_append_left hl]
   · exact ih (by omega)
theorem ul (l : List Int) (N n i : Nat) (hi : i < l.length) (hn : l.getD i 0 = (n : Int) + 1) (hN : n < N) : (aW l N).getD (pl l n + many l ((n : Int) + 1) i) 0 = (i : Int) := by
  induction N with
  | zero => omega
  | succ N ih =>
    by_cases e : n = N
    · subst e
      simp only [aW]
      rw [← oB]
      exact Gy l _ _ _ i hi hn
    · simp only [aW]
      have hlt := vp hn l.length hi
      have hmono : pl l (n + 1) ≤ pl l N := by
        have : ∀ a b, a ≤ b → pl l a ≤ pl l b := by
          intro a b hab
          induction b with
          | zero => have : a = 0 := by omega
                    rw [this]; exact a0a _
          | succ b ihb =>
            by_cases e2 : a = b + 1
            · rw [e2]; exact a0a _
            · have := ihb (by omega)
              simp only [pl]; omega
        exact this _ _ (by omega)
      have hp : pl l (n + 1) = pl l n + many l ((n : Int) + 1) l.length := rfl
      rw [Gz _ _ _ _ _ (by rw [oB]; omega)]
      exact ih (by omega)
theorem It(l:List Int)(n:Int)(k t:Nat)(h:t<many l n k):∃i,i<k/\l.getD i 0=n/\many l n i=t:=by
 induction k with
 | zero=>simp[many]at h
 | succ k ih=>
  simp only[many]at h
  split at h
  case isTrue hn=>
   by_cases e:t=many l n k
   · exact⟨k,a0i _,hn,e.symm⟩
   · obtain⟨i,hi,h1,h2⟩:=ih (by omega);exact⟨i,by omega,h1,h2⟩
  case isFalse=>
   obtain⟨i,hi,h1,h2⟩:=ih h;exact⟨i,by omega,h1,h2⟩
end Go.Proofs.YtbacpebljannfaaGreatDoor
namespace Go.Proofs.YtbacpebljannfaaGreatDoor
open Go.RowKit
def mJ(i:Nat):Int:=if i<144 then 8 else if i<256 then 9 else if i<280 then 7 else 8
def bY(k:Nat):List Int:=(List.range k).map mJ
theorem cT(k:Nat):(bY k).length=k:=by simp[bY]
theorem l9(k:Nat):bY (k+1)=bY k++[mJ k]:=by simp[bY,List.range_succ]
theorem wU(w:World) :
  Calls Tryz.prog 130 #[] w fun e w'=>∃v,e = .returned v/\ak w' w.heap.size v (List.replicate 32 5)/\Below w.heap.size w w':=by
 obtain⟨i0,hi,hz0,hz1,hz2⟩:=a0w Tryz.infoInt;have hq0:Hid (ak (w.alloc (.cells #[] 3)) w.heap.size (.slice (some ⟨w.heap.size,0,none⟩) 0 0) []):=ak.lit _ _ (a0a _);have hb0:Hid (Below w.heap.size w (w.alloc (.cells #[] 3))):=(a0c _ _).alloc (a0a _) _;go_enter Tryz.func130,Tryz.ntmps130;go_wp2_with fail
 go_loopw [1,2] (fun v i wr=>∃k:Nat,k<=32/\i = .int .i64 k/\ak wr w.heap.size v (List.replicate k 5)/\Below w.heap.size w wr) (fun _ i _=>32-(intOf i).toNat)
 case atStart=>exact⟨0,a0l _,rfl,ae hq0,ae hb0⟩
 case round=>
  obtain⟨k,hk,rfl,hq,hbel⟩:=hrel;have hlen:Hid ((List.replicate k (5:Int)).length=k):=a0A;obtain⟨va,vc,rfl⟩:=hq.formN (ae hlen);have hkI:(k:Int)<=32:=by omega
  by_cases hlt:k<32
  ·
   have hltI:(k:Int)<32:=by omega
   have hst:Hid (List.replicate k (5:Int)++[5]=List.replicate (k+1) 5):=by show _=_;rw[List.replicate_succ']
   have bd:Hid (k+1<=maxLen/\(k+1)*8<=140737488355328):=by show _/\_;unfold maxLen;omega
   have hqo:=af (hq.own (ae hlen));have hbs:=hbel.size;have HBel:=af hbel;clear hq hbel;go_wp2_with (at_builtin;refine a0B _ rfl _ _ 84 rfl w.heap.size 3 i0 (.int .i64 0) 1 8 a0h hi hz0 hz1 hz2 rfl (by decide) (.slice va k vc) _ _ rfl (a0o (ae hqo) _) ⟨wr.heap.size,0,none⟩ 1 1 [.int .i64 5] rfl rfl (cX _ _ rfl _ _) (fC _) (ae bd).1 (ae bd).2 (az hbs _) ?_;intro v' x2 hown hgrow hnil;clear hnil);have hb2:=aF (v:=.slice va k vc) hgrow (ae hqo) (a0a _) hbs (ae HBel);have hq2:=fG (ae hlen) hown;rw[ae hst]at hq2;clear hown hgrow;go_wp2;go_roundw
   case rel=>exact⟨k+1,by omega,by go_num,hq2,hb2⟩
   case measure=>simp[intOf];omega
  ·
   obtain rfl:k=32:=by omega
   go_wp2;go_ret;exact⟨_,rfl,hq,hbel⟩
set_option maxRecDepth 100000 in
theorem wV(w:World) :
  Calls Tryz.prog 129 #[] w fun e w'=>∃v,e = .returned v/\ak w' w.heap.size v (bY 288)/\Below w.heap.size w w':=by
 obtain⟨i0,hi,hz0,hz1,hz2⟩:=a0w Tryz.infoInt;have hq0:Hid (ak (w.alloc (.cells #[] 3)) w.heap.size (.slice (some ⟨w.heap.size,0,none⟩) 0 0) (bY 0)):=ak.lit _ _ (a0a _);have hb0:Hid (Below w.heap.size w (w.alloc (.cells #[] 3))):=(a0c _ _).alloc (a0a _) _;go_enter Tryz.func129,Tryz.ntmps129;go_wp2_with fail
 go_loopw [1,2] (fun v i wr=>∃k:Nat,k<=288/\i = .int .i64 k/\ak wr w.heap.size v (bY k)/\Below w.heap.size w wr) (fun _ i _=>288-(intOf i).toNat)
 case atStart=>exact⟨0,a0l _,rfl,ae hq0,ae hb0⟩
 case round=>
  obtain⟨k,hk,rfl,hq,hbel⟩:=hrel;have hlen:=af (cT k);obtain⟨va,vc,rfl⟩:=hq.formN (ae hlen);have hkI:(k:Int)<=288:=by omega
  by_cases hlt:k<288
  ·
   have hltI:(k:Int)<288:=by omega
   have bd:Hid (k+1<=maxLen/\(k+1)*8<=140737488355328):=by show _/\_;unfold maxLen;omega
   have hqo:=af (hq.own (ae hlen));have hbs:=hbel.size;have HBel:=af hbel;clear hq hbel;by_cases h1:(k:Int)<144
   ·
    have hat:Hid (mJ k=8):=by show _=_;unfold mJ;rw[a0d (by omega)]
    have hst:Hid (bY k++[8]=bY (k+1)):=by show _=_;rw[l9,ae hat]
    go_wp2_with (at_builtin;refine a0B _ rfl _ _ 84 rfl w.heap.size 3 i0 (.int .i64 0) 1 8 a0h hi hz0 hz1 hz2 rfl (by decide) (.slice va k vc) _ _ rfl (a0o (ae hqo) _) ⟨wr.heap.size,0,none⟩ 1 1 [.int .i64 8] rfl rfl (cX _ _ rfl _ _) (fC _) (ae bd).1 (ae bd).2 (az hbs _) ?_;intro v' x2 hown hgrow hnil;clear hnil);have hb2:=aF (v:=.slice va k vc) hgrow (ae hqo) (a0a _) hbs (ae HBel);have hq2:=fG (ae hlen) hown;rw[ae hst]at hq2;clear hown hgrow;go_wp2;go_roundw
    case rel=>exact⟨k+1,by omega,by go_num,hq2,hb2⟩
    case measure=>simp[intOf];omega
   ·
    by_cases h2:(k:Int)<256
    ·
     have hat:Hid (mJ k=9):=by show _=_;unfold mJ;rw[a0e (by omega),a0d (by omega)]
     have hst:Hid (bY k++[9]=bY (k+1)):=by show _=_;rw[l9,ae hat]
     go_wp2_with (at_builtin;refine a0B _ rfl _ _ 84 rfl w.heap.size 3 i0 (.int .i64 0) 1 8 a0h hi hz0 hz1 hz2 rfl (by decide) (.slice va k vc) _ _ rfl (a0o (ae hqo) _) ⟨wr.heap.size,0,none⟩ 1 1 [.int .i64 9] rfl rfl (cX _ _ rfl _ _) (fC _) (ae bd).1 (ae bd).2 (az hbs _) ?_;intro v' x2 hown hgrow hnil;clear hnil);have hb2:=aF (v:=.slice va k vc) hgrow (ae hqo) (a0a _) hbs (ae HBel);have hq2:=fG (ae hlen) hown;rw[ae hst]at hq2;clear hown hgrow;go_wp2;go_roundw
     case rel=>exact⟨k+1,by omega,by go_num,hq2,hb2⟩
     case measure=>simp[intOf];omega
    ·
     by_cases h3:(k:Int)<280
     ·
      have hat:Hid (mJ k=7):=by show _=_;unfold mJ;rw[a0e (by omega),a0e (by omega),a0d (by omega)]
      have hst:Hid (bY k++[7]=bY (k+1)):=by show _=_;rw[l9,ae hat]
      go_wp2_with (at_builtin;refine a0B _ rfl _ _ 84 rfl w.heap.size 3 i0 (.int .i64 0) 1 8 a0h hi hz0 hz1 hz2 rfl (by decide) (.slice va k vc) _ _ rfl (a0o (ae hqo) _) ⟨wr.heap.size,0,none⟩ 1 1 [.int .i64 7] rfl rfl (cX _ _ rfl _ _) (fC _) (ae bd).1 (ae bd).2 (az hbs _) ?_;intro v' x2 hown hgrow hnil;clear hnil);have hb2:=aF (v:=.slice va k vc) hgrow (ae hqo) (a0a _) hbs (ae HBel);have hq2:=fG (ae hlen) hown;rw[ae hst]at hq2;clear hown hgrow;go_wp2;go_roundw
      case rel=>exact⟨k+1,by omega,by go_num,hq2,hb2⟩
      case measure=>simp[intOf];omega
     ·
      have hat:Hid (mJ k=8):=by show _=_;unfold mJ;rw[a0e (by omega),a0e (by omega),a0e (by omega)]
      have hst:Hid (bY k++[8]=bY (k+1)):=by show _=_;rw[l9,ae hat]
      go_wp2_with (at_builtin;refine a0B _ rfl _ _ 84 rfl w.heap.size 3 i0 (.int .i64 0) 1 8 a0h hi hz0 hz1 hz2 rfl (by decide) (.slice va k vc) _ _ rfl (a0o (ae hqo) _) ⟨wr.heap.size,0,none⟩ 1 1 [.int .i64 8] rfl rfl (cX _ _ rfl _ _) (fC _) (ae bd).1 (ae bd).2 (az hbs _) ?_;intro v' x2 hown hgrow hnil;clear hnil);have hb2:=aF (v:=.slice va k vc) hgrow (ae hqo) (a0a _) hbs (ae HBel);have hq2:=fG (ae hlen) hown;rw[ae hst]at hq2;clear hown hgrow;go_wp2;go_roundw
      case rel=>exact⟨k+1,by omega,by go_num,hq2,hb2⟩
      case measure=>simp[intOf];omega
  ·
   obtain rfl:k=288:=by omega
   go_wp2;go_ret;exact⟨_,rfl,hq,hbel⟩
def fnd(L G num:Nat):Nat->Nat
 | 0=>0
 | k+1=>if num<(stF L G (k+1)).1 then fnd L G num k else k+1
theorem ez(L G num k:Nat):fnd L G num k<=k:=by
 induction k with
 | zero=>exact a0a _
 | succ k ih=>simp only[fnd];split<;>omega
theorem EG{L G num k:Nat}(h:num<(stF L G (k+1)).1):fnd L G num (k+1)=fnd L G num k:=by simp only[fnd];rw[a0d h]
theorem EH{L G num k:Nat}(h:¬ num<(stF L G k).1):fnd L G num k=k:=by
 cases k with
 | zero=>rfl
 | succ k=>simp only[fnd];rw[a0e h]
theorem pA{L G k:Nat}(hL:L<=3)(hG:1<=G)(hG4:G<=4)(hk:k/G<=15):(stF L G k).1<=200000/\(stF L G k).2<=14:=by
 unfold stF
 split
 · simp only;omega
 ·
  have h1:p2 (k/G-1)<=p2 14:=a0T (by omega) (by omega);have h2:p2 14=16384:=by decide
  have h3:(G+k%G)*p2 (k/G-1)<=8*16384:=a1u (by have:=a1o k hG;omega) (by omega);simp only;omega
theorem pe{w:World}{b:Nat}{x y:Value}{t:TypeId}(h:w.heap[b]?=some (Obj.cells #[x,y] t))(u v:Value):((w.setCell ⟨b,0,none⟩ u).setCell ⟨b,1,none⟩ v).heap[b]?=some (Obj.cells #[u,v] t):=by
 have h1:(w.setCell ⟨b,0,none⟩ u).heap[b]?=some (Obj.cells #[u,y] t):=by
  show(w.heap.modify b _)[b]?=_;rw[Array.getElem?_modify,a0d rfl,h];simp
 generalize w.setCell ⟨b,0,none⟩ u=W at *
 show(W.heap.modify b _)[b]?=_;rw[Array.getElem?_modify,a0d rfl,h1];simp
theorem mh{w:World}{b:Nat}{x y:Value}{t:TypeId}(h:w.heap[b]?=some (Obj.cells #[x,y] t)):w.frozen? ⟨b,0,none⟩=false/\w.frozen? ⟨b,1,none⟩=false:=⟨by simp[World.frozen?,h],by simp[World.frozen?,h]⟩
set_option maxRecDepth 100000 in
theorem wu(L G M num:Nat)(w:World)(hL:L<=3)(hG:1<=G)(hG4:G<=4)(hM1:1<=M)(hM:M<=30)(hMG:(M-1)/G<=15)(hn0:L<=num)(hn:num<=1000) :
  Calls Tryz.prog 178 #[.agg #[.int .i64 (L:Nat),.int .i64 (G:Nat),.int .i64 (M:Nat)],.int .i64 (num:Nat)] w fun e w'=>e = .returned (.tuple #[.int .i64 (fnd L G num (M-1):Nat),.agg #[.int .i64 ((num:Int)-((stF L G (fnd L G num (M-1))).1:Int)),.int .i64 ((stF L G (fnd L G num (M-1))).2:Nat)]])/\Below w.heap.size w w':=by
 obtain⟨q,hq⟩:∃q,M-1=q:=⟨_,rfl⟩;have hqI:(M:Int)-1=(q:Int):=by omega
 have hMI:(M:Int)<=30:=by omega
 have hnI:(num:Int)<=1000:=by omega
 rw[hq]at hMG ⊢;have HS:=af (fun k (hk:k<=q) W=>yk L G M k W hL hG hG4 (a0I (Nat.div_le_div_right hk) hMG) (by omega));have HB:=af (fun k (hk:k<=q)=>pA (L:=L) (G:=G) (k:=k) hL hG hG4 (a0I (Nat.div_le_div_right hk) hMG));have H0:Hid ((stF L G 0).1=L):=by show _=_;unfold stF;rw[a0d (by omega)];simp
 have HN:=af hn0;have hbx:Hid (((w.alloc (.cells #[.int .i64 (L:Nat),.int .i64 (G:Nat),.int .i64 (M:Nat)] 224)).alloc (.cells #[.int .i64 0,.int .i64 0] 114)).heap[w.heap.size]?=some (Obj.cells #[.int .i64 (L:Nat),.int .i64 (G:Nat),.int .i64 (M:Nat)] 224)):=(a1h _ _ _ (by simp)).trans (alloc_at _ _);have hby:Hid (((w.alloc (.cells #[.int .i64 (L:Nat),.int .i64 (G:Nat),.int .i64 (M:Nat)] 224)).alloc (.cells #[.int .i64 0,.int .i64 0] 114)).heap[w.heap.size+1]?=some (Obj.cells #[.int .i64 0,.int .i64 0] 114)):=by
  have e:(w.alloc (.cells #[.int .i64 (L:Nat),.int .i64 (G:Nat),.int .i64 (M:Nat)] 224)).heap.size=w.heap.size+1:=by simp
  have:=alloc_at (w.alloc (.cells #[.int .i64 (L:Nat),.int .i64 (G:Nat),.int .i64 (M:Nat)] 224)) (.cells #[.int .i64 0,.int .i64 0] 114);rw[e]at this;exact this
 have hB0:Hid (Below w.heap.size w ((w.alloc (.cells #[.int .i64 (L:Nat),.int .i64 (G:Nat),.int .i64 (M:Nat)] 224)).alloc (.cells #[.int .i64 0,.int .i64 0] 114))):=((a0c _ w).alloc (a0a _) _).alloc (by simp) _;clear hL hG hG4 hM1 hM hMG hn0 hn hq;go_enter Tryz.func178,Tryz.ntmps178;go_wp2_with fail;refine(ae HS q (a0a _) _).mono ?_;rintro e x1 ⟨rfl,hb1⟩;have hbx1:Hid (x1.heap[w.heap.size]?=some (Obj.cells #[.int .i64 (L:Nat),.int .i64 (G:Nat),.int .i64 (M:Nat)] 224)):=(hb1.block _ (dr (ae hbx))).trans (ae hbx);have hby1:Hid (x1.heap[w.heap.size+1]?=some (Obj.cells #[.int .i64 0,.int .i64 0] 114)):=(hb1.block _ (dr (ae hby))).trans (ae hby);have hB1:=af (am (ae hB0) hb1);clear hb1;go_wp2_with fail
 go_loopw [6,7,8] (fun s f b wr=>∃k:Nat,k<=q/\s = .int .i64 k/\f = .int .i64 ((stF L G k).1:Nat)/\b = .int .i64 ((stF L G k).2:Nat)/\fnd L G num q=fnd L G num k/\Below x1.heap.size x1 wr) (fun s _ _ _=>(intOf s).toNat)
 case atStart=>exact⟨q,a0a _,rfl,rfl,rfl,rfl,a0c _ _⟩
 case round=>
  obtain⟨k,hk,rfl,rfl,rfl,hf,hbel⟩:=hrel;have HF:=af hf;obtain⟨hb1,hb2⟩:=ae HB k hk;have hbx2:=(hbel.block _ (dr (ae hbx1))).trans (ae hbx1);have hby2:=(hbel.block _ (dr (ae hby1))).trans (ae hby1);obtain⟨c0,c1,c2,_⟩:=wP hbx2;obtain⟨d0,d1,_⟩:=di hby2;obtain⟨f0,f1⟩:=mh hby2;have hBw:=af (am (ae hB1) hbel);clear hf;by_cases hlt:num<(stF L G k).1
  ·
   obtain⟨j,rfl⟩:∃j,k=j+1:=by
    cases k with
    | zero=>rw[ae H0]at hlt;have:=ae HN;omega
    | succ j=>exact⟨j,rfl⟩
   have hnx:=af (EG hlt);have hltI:(num:Int)<((stF L G (j+1)).1:Int):=by omega
   have hj:j<=q:=by omega
   have HJ:=af (ae HS j hj);obtain⟨u,hu⟩:∃u:Nat,j+1=u:=⟨_,rfl⟩;have huI:(u:Int)-1=(j:Int):=by omega
   have HU:=af hu;rw[hu]at hltI hnx HF hb1 hb2 ⊢;generalize stF L G u=E at *
   obtain⟨E1,E2⟩:=E;simp only at hltI hb1 hb2 ⊢;have hE1:(E1:Int)<=200000:=by omega
   have hu31:(u:Int)<=31:=by omega
   clear hlt hu hb1 hb2 hk;go_wp2_with fail;refine(ae HJ _).mono ?_;rintro e x2 ⟨rfl,hb2⟩;go_wp2;go_roundw
   case rel=>exact⟨j,hj,by go_num,rfl,rfl,by rw[ae HF,ae hnx],am hbel hb2⟩
   case measure=>simp[intOf];omega
  ·
   have hst:=af (EH hlt);have hltI:((stF L G k).1:Int)<=(num:Int):=by omega
   have HFk:Hid (fnd L G num q=k):=by show _=_;rw[ae HF,ae hst]
   have hkI:(k:Int)<=30:=by omega
   obtain⟨E1,E2,hE⟩:∃E1 E2,stF L G k=(E1,E2):=⟨_,_,rfl⟩;have HE:=af hE;rw[hE]at hltI hb1 hb2 ⊢;simp only at hltI hb1 hb2 ⊢;have hput:=af (pe hby2 (.int .i64 ((num:Int)-(E1:Int))) (.int .i64 (E2:Nat)));have hbs:=(ae hBw).size;have hBf:Hid (Below w.heap.size w ((wr.setCell ⟨w.heap.size+1,0,none⟩ (.int .i64 ((num:Int)-(E1:Int)))).setCell ⟨w.heap.size+1,1,none⟩ (.int .i64 (E2:Nat)))):=((ae hBw).setCell (p:=⟨w.heap.size+1,0,none⟩) (a0H _) _).setCell (p:=⟨w.heap.size+1,1,none⟩) (a0H _) _;clear hlt hk HF hst hE hbx2 hby2;go_wp2;obtain⟨z0,z1,_⟩:=di (ae hput);refine a0u (v:=.tuple #[.int .i64 (k:Nat),.agg #[.int .i64 ((num:Int)-(E1:Int)),.int .i64 (E2:Nat)]]) (by simp[results,Tryz.results178,go_sem,z0,z1]) rfl ⟨?_,ae hBf⟩;rw[ae HFk,ae HE]
structure fe (B:Nat) (w w':World):Prop where
 below:Below B w w'
 keep:∀k,k<w.heap.size->(∀cur fr,w.heap[k]?≠some (.cells cur 5 fr))->w'.heap[k]?=w.heap[k]?
theorem fe.refl(B:Nat)(w:World):fe B w w:=⟨a0c _ _,fun _ _ _=>rfl⟩
theorem fe.size{B:Nat}{w w':World}(h:fe B w w'):w.heap.size<=w'.heap.size:=h.1.size
theorem fe.trans{B:Nat}{w w1 w2:World}(h:fe B w w1)(k:fe B w1 w2):fe B w w2:=
 ⟨h.1.trans k.1,fun j hj hn=>(k.2 j (a0g hj h.size) (by rw[h.2 j hj hn];exact hn)).trans (h.2 j hj hn)⟩
theorem fe.alloc{B:Nat}{w w':World}(h:fe B w w')(hB:B<=w'.heap.size)(o:Obj):fe B w (w'.alloc o):=
 ⟨h.1.alloc hB o,fun j hj hn=>(a1h w' o j (a0g hj h.size)).trans (h.2 j hj hn)⟩
theorem fe.drew{B:Nat}{w w':World}(h:fe B w w'):fe B w w'.drew:=⟨h.1.drew,h.2⟩
theorem fe.later{B:Nat}{w w' w'':World}(h:fe B w w')(hb:Below w'.heap.size w' w'')(hB:B<=w'.heap.size):fe B w w'':=
 ⟨h.1.trans (hb.mono hB),fun j hj hn=>(hb.block j (a0g hj h.size)).trans (h.2 j hj hn)⟩
theorem pJ{x y y':World}{o:Obj}{v:Value}{size n B base:Nat}{xs:List Value}(hg:(y.alloc o).grownBy y' v.ownBlock)(ho:y.ownsRow base 5 size v n xs)(hbb:B<=base)(hy:B<=y.heap.size)(hb:fe B x y):fe B x y':=by
 refine⟨aF hg ho hbb hy hb.1,fun j hj hn=>?_⟩;have h1:=hb.2 j hj hn;have hlt:j<y.heap.size:=a0g hj hb.size;rw[hg.block j (by simp;omega) ?_,a1h y o j hlt]
 · exact h1
 ·
  intro e;rcases ho.2 with⟨rfl,_⟩|⟨g,cap,cur,rfl,_,hgg,_⟩
  · cases e
  · simp only[Value.ownBlock,a0j]at e;subst e;rw[hgg]at h1;exact hn _ _ h1.symm
theorem fe.grown{B:Nat}{x y y':World}{row:Option Nat}(h:fe B x y)(hg:y.grownBy y' row)(hB:B<=y.heap.size)(hr:∀g,row=some g->B<=g)(hu:∀g,row=some g->∃cur fr,y.heap[g]?=some (.cells cur 5 fr)):fe B x y':=by
 refine⟨h.1.grown hg hB hr,fun j hj hn=>?_⟩;have h1:=h.2 j hj hn;rw[hg.block j (a0g hj h.size) ?_]
 · exact h1
 · intro e;obtain⟨cur,fr,h2⟩:=hu j e.symm;rw[h2]at h1;exact hn _ _ h1.symm
theorem mK(w:World) :
  Calls Tryz.prog 177 #[] w fun e w'=>e = .returned (.agg #[.int .i64 3,.int .i64 4,.int .i64 28])/\Below w.heap.size w w':=by
 go_enter Tryz.func177,Tryz.ntmps177;go_wp2;refine a0u (v:=.agg #[.int .i64 3,.int .i64 4,.int .i64 28]) (by simp[results,Tryz.results177,go_sem]) rfl ⟨rfl,(a0c _ w).alloc (a0a _) _⟩
theorem mH(w:World) :
  Calls Tryz.prog 179 #[] w fun e w'=>e = .returned (.agg #[.int .i64 1,.int .i64 2,.int .i64 30])/\Below w.heap.size w w':=by
 go_enter Tryz.func179,Tryz.ntmps179;go_wp2;refine a0u (v:=.agg #[.int .i64 1,.int .i64 2,.int .i64 30]) (by simp[results,Tryz.results179,go_sem]) rfl ⟨rfl,(a0c _ w).alloc (a0a _) _⟩
theorem uP(num:Nat)(w:World)(h0:3<=num)(h1:num<=60) :
  Calls Tryz.prog 178 #[.agg #[.int .i64 3,.int .i64 4,.int .i64 28],.int .i64 (num:Nat)] w fun e w'=>e = .returned (.tuple #[.int .i64 (fnd 3 4 num 27:Nat),.agg #[.int .i64 ((num:Int)-((stF 3 4 (fnd 3 4 num 27)).1:Int)),.int .i64 ((stF 3 4 (fnd 3 4 num 27)).2:Nat)]])/\Below w.heap.size w w':=
 wu 3 4 28 num w (by omega) (by omega) (by omega) (by omega) (by omega) (by decide) h0 (by omega)
theorem uO(num:Nat)(w:World)(h0:1<=num)(h1:num<=250) :
  Calls Tryz.prog 178 #[.agg #[.int .i64 1,.int .i64 2,.int .i64 30],.int .i64 (num:Nat)] w fun e w'=>e = .returned (.tuple #[.int .i64 (fnd 1 2 num 29:Nat),.agg #[.int .i64 ((num:Int)-((stF 1 2 (fnd 1 2 num 29)).1:Int)),.int .i64 ((stF 1 2 (fnd 1 2 num 29)).2:Nat)]])/\Below w.heap.size w w':=
 wu 1 2 30 num w (by omega) (by omega) (by omega) (by omega) (by omega) (by decide) h0 (by omega)
def sy(l:List ByteArray):List Value:=l.map Value.string
def aR(w:World)(base:Nat)(v:Value)(l:List ByteArray):Prop:=w.ownsRow base 9 1 v l.length (sy l)
theorem aR.form{w:World}{base:Nat}{v:Value}{l:List ByteArray}(h:aR w base v l):∃a cap,v = .slice a l.length cap:=by
 rcases h.2 with⟨e,h0⟩|⟨g,cap,_,e,_⟩
 · exact⟨none,0,by rw[e,h0]⟩
 · exact⟨_,cap,e⟩
theorem aR.formN{w:World}{base n:Nat}{v:Value}{l:List ByteArray}(hn:l.length=n)(h:aR w base v l):∃a cap,v = .slice a n cap:=by
 subst hn;exact h.form
theorem aR.own{w:World}{base n:Nat}{v:Value}{l:List ByteArray}(hn:l.length=n)(h:aR w base v l):w.ownsRow base 9 1 v n (sy l):=by
 subst hn;exact h
theorem aR.at{w:World}{base n:Nat}{a:Option Addr}{cap:Nat}{l:List ByteArray}(hn:l.length=n)(h:aR w base (.slice a n cap) l)(h0:0<n) :
  ∃g,a=some ⟨g,0,none⟩/\g<w.heap.size/\∀j,j<n->w.cell? ⟨g,j,none⟩=some (.string (l.getD j ByteArray.empty)):=by
 subst hn;rcases h.2 with⟨_,e⟩|⟨g,cap',cur,e,_⟩
 · omega
 · simp only[a0N]at e;obtain⟨rfl,_,rfl⟩:=e;refine⟨g,rfl,(a0G h g rfl).2,fun j hj=>?_⟩;rw[a04 h j (by omega)];simp[sy,hj,List.getD]
theorem aR.lit(w:World)(base:Nat)(hb:base<=w.heap.size):aR (w.alloc (.cells #[] 9)) base (.slice (some ⟨w.heap.size,0,none⟩) 0 0) []:=a08 w #[] 0 hb (by unfold maxLen;omega) rfl
theorem dO{x:World}{base n:Nat}{v:Value}{l:List ByteArray}{b:ByteArray}(hn:l.length=n)(h:x.ownsRow base 9 1 v (n+1) (sy l++[.string b])):aR x base v (l++[b]):=by
 subst hn;show World.ownsRow _ _ _ _ _ (l++[b]).length _;simpa[sy]using h
theorem Tryz.infoStr:(Tryz.prog.info? 9).map (fun i=>(i.zero,i.size,i.bytes))=some (some (.string ByteArray.empty),1,16):=by kernel_rfl
theorem Bo(x:ByteArray):∀u∈[Value.string x],u.oneCell'=true:=by
 intro u hu;simp at hu;subst hu;rfl
theorem zb(s:ByteArray)(w:World):∃(c:Nat) (x:World) (cs:Array Value) (f:Nat×Nat),(convert 9 33 (.string s)).run Tryz.prog w = .ok (.slice (some ⟨w.heap.size,0,none⟩) s.size c) x/\Below w.heap.size w x/\x.heap[w.heap.size]?=some (.cells cs 5 f)/\∀i (h:i<s.size),cs[i]?=some (.int .u8 (s[i].toNat:Int)):=by
 refine⟨_,_,bytesRow s (grownCap w s.size 0 5),((bytesRow s (grownCap w s.size 0 5)).size,(bytesRow s (grownCap w s.size 0 5)).size+1),run_bytes_of_string w _ _ _ s a10 a05 a1Z,?_,?_,?_⟩
 · exact((a0c _ w).drew).alloc (by simp) _
 · exact Array.getElem?_push_size
 · intro i h;exact bytesRow_at s (grownCap w s.size 0 5) i h
theorem DF{w:World}{b i:Nat}{cs:Array Value}{t:TypeId}{f:Nat×Nat}{v:Value}(h:w.heap[b]?=some (.cells cs t f))(hc:cs[i]?=some v):w.cell? ⟨b,i,none⟩=some v:=by
 unfold World.cell?;rw[h];exact hc
theorem ext_list(s:ByteArray)(i j:Nat):(s.extract i j).data.toList=(s.data.toList.drop i).take (j-i):=by
 rw[ByteArray.data_extract,Array.toList_extract]
theorem qQ(s t:ByteArray):(s++t).size=s.size+t.size:=by simp
theorem yX(x:World)(n:Nat)(hn:n<256) :
  (convert 33 9 (.slice (some ⟨x.heap.size,0,none⟩) 1 1)).run Tryz.prog (x.alloc (.cells #[.int .u8 (n:Int)] 5)) =
   .ok (.string ⟨[UInt8.ofNat n].toArray⟩) (x.alloc (.cells #[.int .u8 (n:Int)] 5)):=by
 refine a3o _ _ _ 5 ⟨x.heap.size,0,none⟩ 1 [UInt8.ofNat n] a05 a1Z a10 (fun j hj=>?_);have hj1:j=0:=by simpa using hj
 subst hj1;have e:((UInt8.ofNat n).toNat:Int)=(n:Int):=by
  rw[UInt8.toNat_ofNat'];omega
 rw[←e];simp[Addr.add]
def four(a b c d:ByteArray):Nat->ByteArray
 | 0=>a | 1=>b | 2=>c|_=>d
def seven(a b c d e f g:ByteArray):Nat->ByteArray
 | 0=>a | 1=>b | 2=>c | 3=>d | 4=>e | 5=>f|_=>g
theorem wE(w:World)(a b c d:ByteArray)(t:TypeId):∀i,i<4->(w.alloc (.cells #[.string a,.string b,.string c,.string d] t)).cell? ⟨w.heap.size,0+i,none⟩=some (.string (four a b c d i)):=by
 intro i hi
 match i,hi with
 | 0,_=>simp[four]
 | 1,_=>simp[four]
 | 2,_=>simp[four]
 | 3,_=>simp[four]
theorem yb(w:World)(a b c d e f g:ByteArray)(t:TypeId):∀i,i<7->(w.alloc (.cells #[.string a,.string b,.string c,.string d,.string e,.string f,.string g] t)).cell? ⟨w.heap.size,0+i,none⟩=some (.string (seven a b c d e f g i)):=by
 intro i hi
 match i,hi with
 | 0,_=>simp[seven]
 | 1,_=>simp[seven]
 | 2,_=>simp[seven]
 | 3,_=>simp[seven]
 | 4,_=>simp[seven]
 | 5,_=>simp[seven]
 | 6,_=>simp[seven]
theorem Cr{a b c d:ByteArray}{n:Nat}(ha:a.size<=n)(hb:b.size<=n)(hc:c.size<=n)(hd:d.size<=n)(i:Nat):(four a b c d i).size<=n:=by
 match i with
 | 0=>exact ha
 | 1=>exact hb
 | 2=>exact hc
 | _+3=>exact hd
theorem Ag{a b c d e f g:ByteArray}{n:Nat}(ha:a.size<=n)(hb:b.size<=n)(hc:c.size<=n)(hd:d.size<=n)(he:e.size<=n)(hf:f.size<=n)(hg:g.size<=n)(i:Nat):(seven a b c d e f g i).size<=n:=by
 match i with
 | 0=>exact ha
 | 1=>exact hb
 | 2=>exact hc
 | 3=>exact hd
 | 4=>exact he
 | 5=>exact hf
 | _+6=>exact hg
theorem of_le(B b m lb lo n cap M:Nat)(v:Nat->ByteArray)(w:World)(h:Rd w B b m)(hm:m<=100000)(n1:0<n)(n2:n<=70000)(hlb:lb≠b)(hc:∀i,i<n->w.cell? ⟨lb,lo+i,none⟩=some (.string (v i)))(hv:∀i,(v i).size<=M) :
  Calls Tryz.prog 69 #[.pointer (some ⟨b,0,none⟩),.slice (some ⟨lb,lo,none⟩) n cap] w fun e w'=>∃t:ByteArray,t.size<=M/\e = .returned (.string t)/\Rd w' B b (m+1)/\kX b w w':=by
 refine(JB B b m lb lo n cap v w h hm n1 n2 hlb hc).mono ?_;rintro e w' ⟨i,_,he,hr,ho⟩;exact⟨v i,hv i,he,hr,ho⟩
theorem y6{w:World}{g cap:Nat}{l:List UInt8}{base:Nat}(h:w.ownsRow base 5 1 (.slice (some ⟨g,0,none⟩) l.length cap) l.length (l.map fun x=>Value.int .u8 (x.toNat:Int))) :
  (convert 33 9 (.slice (some ⟨g,0,none⟩) l.length cap)).run Tryz.prog w = .ok (.string ⟨l.toArray⟩) w:=
 a3o w _ _ _ ⟨g,0,none⟩ cap l a05 a1Z a10 (fun j hj=>by
  have:=h.cells (g:=g) rfl j (.int .u8 (l[j].toNat:Int)) (by simp[hj]);exact this)
theorem Tryz.infoByte:(Tryz.prog.info? 5).map (fun i=>(i.zero,i.size,i.bytes))=some (some (.int .u8 0),1,1):=by kernel_rfl
theorem byte_of(r:Int)(h0:0<=r)(h1:r<256):∃x:UInt8,(x.toNat:Int)=r:=by
 obtain⟨k,rfl⟩:=a0r h0;refine⟨UInt8.ofNat k,?_⟩;have:k%256=k:=a1a (by omega);simp[this]
set_option maxRecDepth 100000
theorem E4{b : Nat}{a w w' : World}{row : Option Nat}(h : Kn b a w)(hg : w.grownBy w' row)(hr : ∀j, row = some j -> a.heap.size <= j)(hb : b < a.heap.size) : Kn b a w' :=
  ⟨h.1.grown hg (a0I (a0x hb) h.2.2) (fun j hj => a0I (a0x hb) (hr j hj)),
   fun k hk hkb => (hg.block k (a0g hk h.2.2) (fun e => by have := hr k e.symm;omega)).trans (h.2.1 k hk hkb),
   a0I h.2.2 hg.size⟩
theorem oa(B b m:Nat)(w:World)(h:Rd w B b m)(hm:m<=90000) :
  Calls Tryz.prog 72 #[.pointer (some ⟨b,0,none⟩)] w fun e w'=>(∃s:ByteArray,e = .returned (.string s)/\s.size<=400)/\Rd w' B b (m+50)/\Kn b w w':=by
 obtain⟨i0,hi,hz0,hz1,hz2⟩:=a0w Tryz.infoByte;have hbw:=h.lt;go_enter Tryz.func72,Tryz.ntmps72;go_wp2_with fail;refine(bU B b m _ _ h (by omega) (by omega) (by omega)).mono ?_;rintro e w1 ⟨r,rfl,r0,r1,hrd1,hon1⟩;have hlt1:=hrd1.lt;by_cases h0:r=0
 · subst h0;go_wp2;go_ret;exact⟨⟨_,rfl,by decide⟩,hrd1.mono (by omega),hon1.kn⟩
 have g0:(r == 0)=false:=by simpa using h0
 by_cases h1:r=1
 · subst h1;clear h0 g0;go_wp2_with fail;refine(of_le B b (m+1) w1.heap.size 0 4 4 6 _ _ (hrd1.alloc _) (by omega) (by omega) (by omega) (a0M hlt1) (wE w1 _ _ _ _ _) (Cr (by decide) (by decide) (by decide) (by decide))).mono ?_;rintro e w2 ⟨t0,hsz,rfl,hrd2,hon2⟩;go_wp2_with fail;refine(bU B b (m+2) _ _ hrd2 (by omega) (by omega) (by omega)).mono ?_;rintro e w3 ⟨r',rfl,r0',r1',hrd3,hon3⟩;go_wp2_with fail;refine(mX _ _ _ (by omega) (by omega) (by omega)).mono ?_;rintro e w4 ⟨⟨t,rfl,ht⟩,rfl⟩;go_wp2;go_ret;refine⟨⟨t,rfl,?_⟩,hrd3.mono (by omega),((hon1.kn.trans (gR w1 _ hlt1)).trans hon2.kn).trans hon3.kn⟩;rw[ht];have:=a1u hsz (show(1+r').toNat<=40 by omega);omega
 have g1:(r == 1)=false:=by simpa using h1
 by_cases h2:r=2
 ·
  subst h2;clear h0 h1 g0 g1;go_wp2_with fail;refine(bU B b (m+1) _ _ (hrd1.alloc _) (by omega) (by omega) (by omega)).mono ?_;rintro e w2 ⟨r',rfl,r0',r1',hrd2,hon2⟩;obtain⟨n0,rfl⟩:=a0r r0';have hown0:w2.ownsRow w.heap.size 5 1 (.slice (some ⟨w1.heap.size,0,none⟩) 0 0) 0 []:=
   tY (a08 w1 #[] 0 hon1.kn.2.2 (by unfold maxLen;omega) rfl) hon2 hbw
  have hbel2:=(hon1.kn.trans (gR w1 (.cells #[] 5) hlt1)).trans hon2.kn;go_wp2_with fail
  go_loopw [3,4] (fun o n wr=>∃(l:List UInt8) (k:Nat),n = .int .i64 k/\k<=39/\l.length+k<=39/\o ≠ .slice none 0 0/\wr.ownsRow w.heap.size 5 1 o l.length (l.map fun x=>Value.int .u8 (x.toNat:Int))/\Rd wr B b (m+42-k)/\Kn b w wr) (fun _ n _=>(intOf n).toNat)
  case atStart=>exact⟨[],n0,rfl,by omega,by simp;omega,by simp,hown0,hrd2.mono (by omega),hbel2⟩
  case round=>
   obtain⟨l,k,rfl,hk,hlk,hnn,hown,hrd,hbel⟩:=hrel;have hltr:=hrd.lt;have hk':(k:Int)<=39:=by omega
   have HL:=af hlk;clear hk hlk hrd1 hrd2 hon1 hon2 hbel2 hown0;by_cases hp:(0:Int)<(k:Int)
   ·
    go_wp2_with fail;refine(bU B b (m+42-k) _ _ hrd (by omega) (by omega) (by omega)).mono ?_;rintro e w3 ⟨q,rfl,q0,q1,hrd3,hon3⟩;obtain⟨x,rfl⟩:=byte_of q q0 q1;have hown3:=tY hown hon3 hbw;have hblk:∀j,u3.ownBlock=some j->w.heap.size<=j:=fun j hj=>(hown3.lt j hj).1;have hlt3:=hrd3.lt;have hbel3:=hbel.trans hon3.kn;clear hown hrd hon3;go_wp2_with (at_builtin;refine a0B _ rfl _ _ 33 rfl w.heap.size 5 i0 (.int .u8 0) 1 1 a05 hi hz0 hz1 hz2 rfl (by decide) _ _ _ rfl (hown3.alloc _) ⟨w3.heap.size,0,none⟩ 1 1 [.int .u8 (x.toNat:Int)] rfl rfl ?c1 ?c2 ?c3 ?c4 ?c5 ?_)
    case c1=>
     intro j u hj
     match j,hj with
     | 0,hj=>simp at hj;subst hj;simp[Addr.add]
    case c2=>intro u hu;simp at hu;subst hu;rfl
    case c3=>have:=ae HL;unfold maxLen;omega
    case c4=>have:=ae HL;omega
    case c5=>have:=hbel3.2.2;simp;omega
    intro v' w4 hown4 hgrow hnil;have hb4:Rd w4 B b (m+42-k+1):=(hrd3.alloc _).grown hgrow (fun j hj=>a0g hbw (hblk j hj));have hbel4:Kn b w w4:=E4 (hbel3.trans (gR w3 _ hlt3)) hgrow hblk hbw;have hnn4:v' ≠ .slice none 0 0:=hnil;have hown5:w4.ownsRow w.heap.size 5 1 v' (l++[x]).length ((l++[x]).map fun x=>Value.int .u8 (x.toNat:Int)):=by simpa using hown4
    clear hown4 hgrow hown3 hrd3 hbel3 hnil;go_wp2;go_roundw
    case rel=>exact⟨l++[x],k-1,by go_num,by omega,by have:=ae HL;simp;omega,hnn4,hown5,hb4.mono (by omega),hbel4⟩
    case measure=>simp[intOf];omega
   ·
    obtain⟨g,cap,rfl⟩:∃g cap,u3 = .slice (some ⟨g,0,none⟩) l.length cap:=by
     rcases hown.2 with⟨e,_⟩|⟨g,cap,_,e,_⟩
     · exact absurd e hnn
     · exact⟨g,cap,e⟩
    have hback:=y6 hown;go_wp2;go_ret;exact⟨⟨_,rfl,by have:=ae HL;simp[ByteArray.size];omega⟩,hrd.mono (by omega),hbel⟩
 have g2:(r == 2)=false:=by simpa using h2
 by_cases h3:r=3
 · subst h3;clear h0 h1 h2 g0 g1 g2;go_wp2_with (go_at_call 80;refine(mX _ _ _ (by omega) (by omega) (by decide)).mono ?_;rintro e w' ⟨⟨t,rfl,ht⟩,rfl⟩);go_ret;exact⟨⟨t,rfl,by rw[ht];decide⟩,hrd1.mono (by omega),hon1.kn⟩
 have g3:(r == 3)=false:=by simpa using h3
 clear h0 h1 h2 h3;go_wp2_with fail;refine(bU B b (m+1) _ _ hrd1 (by omega) (by omega) (by omega)).mono ?_;rintro e w2 ⟨r',rfl,r0',r1',hrd2,hon2⟩;obtain⟨n0,rfl⟩:=a0r r0';have hbel2:=hon1.kn.trans hon2.kn;go_wp2_with fail
 go_loopw [5,6] (fun o n wr=>∃(s:ByteArray) (k:Nat),o = .string s/\n = .int .i64 k/\k<=11/\s.size+6*k<=66/\Rd wr B b (m+20-k)/\Kn b w wr) (fun _ n _=>(intOf n).toNat)
 case atStart=>exact⟨ByteArray.empty,n0,rfl,rfl,by omega,by show 0+6*n0<=66;omega,hrd2.mono (by omega),hbel2⟩
 case round=>
  obtain⟨s,k,rfl,rfl,hk,hsz,hrd,hbel⟩:=hrel;have hltr:=hrd.lt;have hk':(k:Int)<=11:=by omega
  have hsz':(s.size:Int)+6*k<=66:=by omega
  have HK:=af hk;clear hk hsz hrd1 hrd2 hon1 hon2 hbel2 hi hz0 hz1 hz2;by_cases hp:(0:Int)<(k:Int)
  ·
   go_wp2_with fail;refine(of_le B b (m+20-k) wr.heap.size 0 7 7 6 _ _ (hrd.alloc _) (by omega) (by omega) (by omega) (a0M hltr) (yb wr _ _ _ _ _ _ _ _) (Ag (by decide) (by decide) (by decide) (by decide) (by decide) (by decide) (by decide))).mono ?_;rintro e w3 ⟨t0,hsz0,rfl,hrd3,hon3⟩;go_wp2;go_roundw
   case rel=>exact⟨s++t0,k-1,rfl,by go_num,by omega,by rw[a0U];omega,hrd3.mono (by omega),(hbel.trans (gR wr _ hltr)).trans hon3.kn⟩
   case measure=>simp[intOf];omega
  · go_wp2;go_ret;exact⟨⟨s,rfl,by omega⟩,hrd.mono (by omega),hbel⟩
theorem qp(B b m:Nat)(w:World)(h:Rd w B b m)(hm:m<=80000) :
  Calls Tryz.prog 48 #[.pointer (some ⟨b,0,none⟩)] w fun e w'=>(∃s:ByteArray,e = .returned (.string s)/\s.size<=400)/\Rd w' B b (m+60)/\Kn b w w':=by
 go_enter Tryz.func48,Tryz.ntmps48;go_wp2_with fail;refine(bU B b m _ _ h (by omega) (by omega) (by omega)).mono ?_;rintro e w1 ⟨r,rfl,r0,r1,hrd1,hon1⟩;by_cases h0:r=0
 · subst h0;go_wp2_with (go_at_call 80;refine(mX _ _ _ (by omega) (by omega) (by decide)).mono ?_;rintro e w' ⟨⟨t,rfl,ht⟩,rfl⟩);go_ret;exact⟨⟨t,rfl,by rw[ht];decide⟩,hrd1.mono (by omega),hon1.kn⟩
 ·
  have g0:(r == 0)=false:=by simpa using h0
  clear h0;go_wp2_with (go_at_call 72;refine(oa B b (m+1) _ hrd1 (by omega)).mono ?_;rintro e w2 ⟨⟨s,rfl,hs⟩,hrd2,hbel2⟩);go_ret;exact⟨⟨s,rfl,hs⟩,hrd2.mono (by omega),hon1.kn.trans hbel2⟩
end Go.Proofs.YtbacpebljannfaaGreatDoor
namespace Go.Proofs.YtbacpebljannfaaGreatDoor
open Go.RowKit Corb
theorem Ix(l:List Int)(N d:Nat):nx l N*p2 d<=nx l (N+d):=by
 induction d with
 | zero=>simp[p2]
 | succ d ih=>
  have:nx l (N+d+1)=2*nx l (N+d)+many l (((N+d:Nat):Int)+1) l.length:=rfl;rw[i7,←a1A,←a1N,this];omega
end Go.Proofs.YtbacpebljannfaaGreatDoor
