/- Texts. -/
import Derived.Test.YtckocaibjciplaaGreatDoorM24
import Derived.Test.YtckocaibjciplaaGreatDoorTi1
import Derived.Test.YtckocaibjciplaaGreatDoorM20
import Derived.Test.YtckocaibjciplaaGreatDoorM15
import Derived.Test.YtckocaibjciplaaGreatDoorM21
set_option linter.all false
set_option maxRecDepth 100000
set_option maxHeartbeats 6400000
namespace Go.Proofs.YtckocaibjciplaaGreatDoor
open Go.Proofs.Tryz
open Go.RowKit Corb
variable {w:World}
def bm{P:Program}{ops:Array Oper}{rest:List Oper}{op:Oper}{a:Act}{Q:Exit->Act->World->Prop}(c:op.guard=none)(ty:TypeId)(x:Operand)(g:op.op = .load ty x)
  (b o:Nat) (j:a.eval x = .pointer (some ⟨b,o,none⟩)) (C:Array Value) (d:TypeDesc) (e:w.rangeAt b o C.toList) (i:P.underlying ty=some d) (hd:d.isRow=true) (f:(P.info? ty).map (·.size)=some C.size)
  (h:wpList P ops Q rest (a.put op.dst (.agg C)) w):wpList P ops Q (op :: rest) a w:=
 wpList_load_mid c ty x g b o j C.toList d e i hd (by simpa using f) (by simpa using h)
def kO{w':World}{b o:Nat}{c:List Value}(h:w.rangeAt b o c)(hb:Below w.heap.size w w')(a:b<w.heap.size):w'.rangeAt b o c:=fun j v d=>(hb.cell (p:=⟨b,o+j,none⟩) a).trans (h j v d)
def Ff(w:World)(g:Nat)(l:List (Int×Int)):Prop:=w.heap[g]?=some (Obj.cells (aX l).toArray 159)
def Ff.cells{g:Nat}{l:List (Int×Int)}(h:Ff w g l):∀(j:Nat) (u:Value),(aX l)[j]?=some u->w.cell? ((⟨g,0,none⟩:Addr).add j)=some u:=by
 intro j u a;have e1:(⟨g,0,none⟩:Addr).add j=⟨g,j,none⟩:=by unfold Addr.add;split<;>simp_all
 rw[e1,bw h];simpa using a
def pcS(l:List Int)(k:Nat):Int×Int:=(btI ((aV l 15).2.getD k 0) (l.getD k 0),l.getD k 0)
def pcT(L D:List Int)(t:Tk):List (Int×Int):=
 if isB t then [pcS L t.1.toNat]
 else [pcS L (257+fnd 3 4 t.2.1.toNat 27),((t.2.1.toNat:Int)-((stF 3 4 (fnd 3 4 t.2.1.toNat 27)).1:Int),((stF 3 4 (fnd 3 4 t.2.1.toNat 27)).2:Nat)),pcS D (fnd 1 2 t.2.2.toNat 29),((t.2.2.toNat:Int)-((stF 1 2 (fnd 1 2 t.2.2.toNat 29)).1:Int),((stF 1 2 (fnd 1 2 t.2.2.toNat 29)).2:Nat))]
def Oz(k base:Nat)(L D:List Int)(C:Array Value)(w:World)(q:eJ w base L D C)(m:k<L.length)(j:k<=255)(l:L.length<=300) :
  Calls prog 164 #[.agg C,.iface 237 (.int .u8 (k:Nat))] w fun e w'=>(∃g,e = .returned (.slice (some ⟨g,0,none⟩) 1 1)/\Ff w' g [pcS L k])/\Below w.heap.size w w':=by
 obtain⟨a,h,rfl,f,h2⟩:=q;have s:(k:Int)<=255:=by omega
 have c:Below w.heap.size w (w.alloc (.cells (a++h) 192)):=cC;have n:=af (jb (alloc_at w (.cells (a++h) 192)) f.size).1;have HP:=af (fun W (r:Below w.heap.size w W)=>pC k L a base W (f.later r) m l);have p:=pn (.int .u8 (k:Nat)) (w.alloc (.cells (a++h) 192));have o:=af f.size;have b:=af c;have i:Hid (pcS L k=(btI ((aV L 15).2.getD k 0) (L.getD k 0),L.getD k 0)):=rfl;generalize btI ((aV L 15).2.getD k 0) (L.getD k 0)=u,L.getD k 0=v at *;clear f h2 m l c j;go_enter func164,ntmps164;go_wp2_with (first
  | (refine bm rfl 187 (.tmp 12) rfl w.heap.size 0 rfl a _ n a2k rfl (by rw[ae o];exact Tryz.infoLitB) ?_)
  | (go_at_call 165;apply(HP _ (ae b)).mono;rintro e x1⟨rfl,d⟩))
 go_ret;refine⟨⟨x1.heap.size,rfl,?_⟩,aj b (d.alloc d.size _)⟩;rw[ae i];exact alloc_at _ _
def dA{P:Program}{ops:Array Oper}{S:World->Prop}{op:Oper}{a:Act}(h:Region.wanted op (yielded ops a.tmps)=true)(ty:TypeId)(x:Operand)(f:op.op = .load ty x)
  (b o:Nat) (i:a.eval x = .pointer (some ⟨b,o,none⟩)) (C:Array Value) (d:TypeDesc) (c:∀w,S w->w.rangeAt b o C.toList)
  (g:P.underlying ty=some d) (hd:d.isRow=true) (e:(P.info? ty).map (·.size)=some C.size):YieldsIf P ops S op (.agg C) a:=by
 have:=yieldsIf_load_mid (S:=S) h ty x f b o i C.toList d c g hd (by simpa using e);simpa using this
theorem OA(y z base:Nat)(L D:List Int)(C:Array Value)(w:World)(hB:eJ w base L D C)(y0:3<=y)(y1:y<=60)(z0:1<=z)(z1:z<=250)(V:257+fnd 3 4 y 27<L.length)(U:fnd 1 2 z 29<D.length)(hL:L.length<=300)(hD:D.length<=300) :
  Calls prog 164 #[.agg C,.iface 239 (.agg #[y,z])] w fun e w'=>(∃g,e = .returned (.slice (some ⟨g,0,none⟩) 4 4)/\Ff w' g [pcS L (257+fnd 3 4 y 27),((y:Int)-((stF 3 4 (fnd 3 4 y 27)).1:Int),((stF 3 4 (fnd 3 4 y 27)).2:Nat)),pcS D (fnd 1 2 z 29),((z:Int)-((stF 1 2 (fnd 1 2 z 29)).1:Int),((stF 1 2 (fnd 1 2 z 29)).2:Nat))])/\Below w.heap.size w w':=by
 obtain⟨b,c,rfl,h1,h2⟩:=hB;have X:=cE
 have al:=af (fun W=>El y z W y0 y1 z0 z1);have I:=af (fun W (H:Below w.heap.size w W)=>pC (257+fnd 3 4 y 27) L b base W (h1.later H) V hL);have ad:=af (fun W (H:Below w.heap.size w W)=>BQ (fnd 1 2 z 29) D c base W (h2.later H) U hD);have J:Hid (pcS L (257+fnd 3 4 y 27)=(btI ((aV L 15).2.getD (257+fnd 3 4 y 27) 0) (L.getD (257+fnd 3 4 y 27) 0),L.getD (257+fnd 3 4 y 27) 0)):=rfl;have M:Hid (pcS D (fnd 1 2 z 29)=(btI ((aV D 15).2.getD (fnd 1 2 z 29) 0) (D.getD (fnd 1 2 z 29) 0),D.getD (fnd 1 2 z 29) 0)):=rfl;have eL:((257+fnd 3 4 y 27:Nat):Int)=257+((fnd 3 4 y 27:Nat):Int):=by omega
 rw[eL]at I;generalize pcS L (257+fnd 3 4 y 27)=P1 at *
 generalize pcS D (fnd 1 2 z 29)=P2 at *
 generalize btI ((aV L 15).2.getD (257+fnd 3 4 y 27) 0) (L.getD (257+fnd 3 4 y 27) 0)=p1 at *
 generalize L.getD (257+fnd 3 4 y 27) 0=q1 at *
 generalize btI ((aV D 15).2.getD (fnd 1 2 z 29) 0) (D.getD (fnd 1 2 z 29) 0)=p2 at *
 generalize D.getD (fnd 1 2 z 29) 0=q2 at *
 generalize stF 3 4 (fnd 3 4 y 27)=E at *
 generalize stF 1 2 (fnd 1 2 z 29)=E' at *
 generalize fnd 3 4 y 27=f at *
 generalize fnd 1 2 z 29=f' at *
 have G:=af (jb (alloc_at w (.cells (b++c) 192)) h1.size);have t:=a2k;have u:=underlying190;have r:(prog.info? 187).map (·.size)=some b.size:=by rw[h1.size];exact Tryz.infoLitB
 have s:(prog.info? 190).map (·.size)=some c.size:=by rw[h2.size];exact Tryz.infoDistB
 have HU:=af (a0b t (a0b u (a0b r s)));have ab:Hid (Below w.heap.size w (w.alloc (.cells (b++c) 192))):=cC;have ao:=rC (.agg #[y,z]) (w.alloc (.cells (b++c) 192));have O:=pm (.agg #[y,z]) (w.alloc (.cells (b++c) 192));clear h1 h2 V U hL hD y0 y1 z0 z1 eL t u r s;go_enter func164,ntmps164;go_wp2_with fail;refine(ae al _).mono ?_;rintro e x1⟨rfl,P⟩;have F:Below (w.heap.size+1) (w.alloc (.cells (b++c) 192)) x1:=by
  have h0:Below (w.heap.size+1) (w.alloc (.cells (b++c) 192)) ((w.alloc (.cells (b++c) 192)).alloc (.cells #[y,z] 239)):=(a0c _ _).alloc (by simp) _;exact h0.trans (P.mono (by simp))
 clear P ao O;go_wp2_with fail;obtain⟨W8,hW8⟩:∃W,W=x1.alloc (.cells #[.int .i64 (257+(f:Int)),.int .i64 ((y:Int)-(E.1:Int)),.int .i64 (E.2:Nat),f',.int .i64 ((z:Int)-(E'.1:Int)),.int .i64 (E'.2:Nat)] 241):=⟨_,rfl⟩;have T:W8.heap[x1.heap.size]?=some (.cells #[.int .i64 (257+(f:Int)),.int .i64 ((y:Int)-(E.1:Int)),.int .i64 (E.2:Nat),f',.int .i64 ((z:Int)-(E'.1:Int)),.int .i64 (E'.2:Nat)] 241):=by rw[hW8];exact alloc_at _ _
 have a2:W8.heap.size=x1.heap.size+1:=by rw[hW8];exact dU _ _
 have q:Below (w.heap.size+1) (w.alloc (.cells (b++c) 192)) W8:=by
  rw[hW8];exact F.alloc (by have:=F.size;simpa using this) _
 have Z:Below w.heap.size w W8:=(ae ab).trans (q.mono (by omega));have Y:w.heap.size+1<=W8.heap.size:=by have:=q.size;simpa using this
 have N:∀W,Below W8.heap.size W8 W->W.rangeAt w.heap.size 0 b.toList/\W.rangeAt w.heap.size 19 c.toList/\W.cell? ⟨x1.heap.size,0,none⟩=some (.int .i64 (257+(f:Int)))/\W.cell? ⟨x1.heap.size,1,none⟩=some (.int .i64 ((y:Int)-(E.1:Int)))/\W.cell? ⟨x1.heap.size,2,none⟩=some (.int .i64 (E.2:Nat))/\W.cell? ⟨x1.heap.size,3,none⟩=some (.int .i64 (f':Nat))/\W.cell? ⟨x1.heap.size,4,none⟩=some (.int .i64 ((z:Int)-(E'.1:Int)))/\W.cell? ⟨x1.heap.size,5,none⟩=some (.int .i64 (E'.2:Nat)):=by
  intro W H;have hb:=(H.block _ (by omega:x1.heap.size<W8.heap.size)).trans T;have hB:=q.trans (H.mono Y);exact⟨fun j v hv=>(hB.cell (p:=⟨w.heap.size,0+j,none⟩) (a0i _)).trans ((ae G).1 j v hv),fun j v hv=>(hB.cell (p:=⟨w.heap.size,19+j,none⟩) (a0i _)).trans ((ae G).2 j v hv),bw hb 0,bw hb 1,bw hb 2,bw hb 3,bw hb 4,bw hb 5⟩
 have k:=af N;have x:=af Z;have A:Below W8.heap.size W8 W8.drew:=(a0c _ W8).drew;rw[←hW8];clear hW8 T a2 q F Z N G;obtain⟨t,u,r,s⟩:=ae HU;refine wp_region_held_drew (S:=fun W=>W.rangeAt w.heap.size 0 b.toList/\W.rangeAt w.heap.size 19 c.toList/\W.cell? ⟨x1.heap.size,0,none⟩=some (.int .i64 (257+(f:Int)))/\W.cell? ⟨x1.heap.size,1,none⟩=some (.int .i64 ((y:Int)-(E.1:Int)))/\W.cell? ⟨x1.heap.size,2,none⟩=some (.int .i64 (E.2:Nat))/\W.cell? ⟨x1.heap.size,3,none⟩=some (.int .i64 (f':Nat))/\W.cell? ⟨x1.heap.size,4,none⟩=some (.int .i64 ((z:Int)-(E'.1:Int)))/\W.cell? ⟨x1.heap.size,5,none⟩=some (.int .i64 (E'.2:Nat))) X (ae k _ A) (fun d=>?_);refine ag 0 (.pointer w.heap.size) rfl (?_) d ?_
 . intro W a;obtain⟨s0,s1,s2,s3,s4,s5,s6,s7⟩:=a;go_simp
 refine aq 1 (.agg b) rfl (dA (by rfl) 187 (.tmp 23) rfl w.heap.size 0 rfl b _ (fun _ h=>h.1) t rfl r) d ?_;refine ag 2 (.pointer x1.heap.size) rfl (?_) d ?_
 . intro W a;obtain⟨s0,s1,s2,s3,s4,s5,s6,s7⟩:=a;go_simp
 refine ag 3 (.int .i64 (257+(f:Int))) rfl (?_) d ?_
 . intro W a;obtain⟨s0,s1,s2,s3,s4,s5,s6,s7⟩:=a;go_simp
 refine ag 5 (.pointer (some ⟨x1.heap.size,1,none⟩)) rfl (?_) d ?_
 . intro W a;obtain⟨s0,s1,s2,s3,s4,s5,s6,s7⟩:=a;go_simp
 refine ag 6 (.agg #[.int .i64 ((y:Int)-(E.1:Int)),.int .i64 (E.2:Nat)]) rfl (?_) d ?_
 . intro W a;obtain⟨s0,s1,s2,s3,s4,s5,s6,s7⟩:=a;go_simp
 refine ag 7 (.pointer (some ⟨w.heap.size,19,none⟩)) rfl (?_) d ?_
 . intro W a;obtain⟨s0,s1,s2,s3,s4,s5,s6,s7⟩:=a;go_simp
 refine aq 8 (.agg c) rfl (dA (by rfl) 190 (.tmp 30) rfl w.heap.size 19 rfl c _ (fun _ h=>h.2.1) u rfl s) d ?_;refine ag 9 (.pointer (some ⟨x1.heap.size,3,none⟩)) rfl (?_) d ?_
 . intro W a;obtain⟨s0,s1,s2,s3,s4,s5,s6,s7⟩:=a;go_simp
 refine ag 10 (.int .i64 (f':Nat)) rfl (?_) d ?_
 . intro W a;obtain⟨s0,s1,s2,s3,s4,s5,s6,s7⟩:=a;go_simp
 refine ag 12 (.pointer (some ⟨x1.heap.size,4,none⟩)) rfl (?_) d ?_
 . intro W a;obtain⟨s0,s1,s2,s3,s4,s5,s6,s7⟩:=a;go_simp
 refine ag 13 (.agg #[.int .i64 ((z:Int)-(E'.1:Int)),.int .i64 (E'.2:Nat)]) rfl (?_) d ?_
 . intro W a;obtain⟨s0,s1,s2,s3,s4,s5,s6,s7⟩:=a;go_simp
 refine ah 4 fun K l=>?_;go_simp;go_at_call 165;refine(ae I _ (ae x).drew).mono ?_;rintro e x2⟨rfl,Q⟩;have m:Below W8.heap.size W8 x2:=aj A Q;refine Shut.out l _ _ (ae k _ m) (fun a0=>?_);clear l K Q;refine ah 11 fun K l=>?_;go_simp;go_at_call 199;refine(ae ad _ (aj (ae x) m)).mono ?_;rintro e x3⟨rfl,R⟩;have n:Below W8.heap.size W8 x3:=aj m R;refine Shut.out l _ _ (ae k _ n) (fun a1=>?_);clear l K R;refine ah 14 fun K l=>?_;go_simp;have o:Below W8.heap.size W8 (x3.alloc (.cells #[p1,q1,.int .i64 ((y:Int)-(E.1:Int)),.int .i64 (E.2:Nat),p2,q2,.int .i64 ((z:Int)-(E'.1:Int)),.int .i64 (E'.2:Nat)] 159)):=n.alloc n.size _;refine Shut.out l _ _ (ae k _ o) (fun B=>?_);clear l K B a1 a0 d;refine ah 15 fun K l=>?_;go_simp;refine Shut.out l _ _ (ae k _ o) (fun B=>?_);clear l K B;refine wpAnyH_done (by kernel_rfl) ?_ _;have ac:Hid (Ff (x3.alloc (.cells #[p1,q1,.int .i64 ((y:Int)-(E.1:Int)),.int .i64 (E.2:Nat),p2,q2,.int .i64 ((z:Int)-(E'.1:Int)),.int .i64 (E'.2:Nat)] 159)) x3.heap.size [P1,((y:Int)-(E.1:Int),(E.2:Nat)),P2,((z:Int)-(E'.1:Int),(E'.2:Nat))]):=by
  show Ff _ _ _;rw[ae J,ae M];exact alloc_at _ _
 have aa:=af (aj (ae x) o);clear o n m A;go_wp2;go_ret;exact⟨⟨x3.heap.size,rfl,ae ac⟩,ae aa⟩
def KD:Array Value:=(bC.map fun i=>Value.int .i64 (i:Nat)).toArray
def dG(w:World):Prop:=w.rangeAt 1 0 KD.toList/\1<w.heap.size
def dG.later{w':World}(h:dG w)(hb:Below w.heap.size w w'):dG w':=⟨kO h.1 hb h.2,a0h h.2 hb.size⟩
def DR(k:Nat)(h:k<19):KD[k]?=some (.int .i64 (bC.getD k 0:Nat)):=by
 unfold KD;have:k<bC.length:=h;simp[List.getD,this]
def Tryz.infoOrd:(prog.info? 252).map (·.size)=some 19:=by kernel_rfl
def KE(j:Nat)(h:j<19)(w:World):(Instr.index 252 (.agg KD) (.int .i64 (j:Int))).run prog w = .ok (.int .i64 (bC.getD j 0:Nat)) w:=by
 rcases (show j=0∨j=1∨j=2∨j=3∨j=4∨j=5∨j=6∨j=7∨j=8∨j=9∨j=10∨j=11∨j=12∨j=13∨j=14∨j=15∨j=16∨j=17∨j=18 by omega)with rfl|rfl|rfl|rfl|rfl|rfl|rfl|rfl|rfl|rfl|rfl|rfl|rfl|rfl|rfl|rfl|rfl|rfl|rfl<;>kernel_rfl
def AC(j:Nat)(h:j<19):bC.getD j 0<19:=by
 have:∀i∈bC,i<19:=by decide
 have a:j<bC.length:=h;exact this _ (by simp[List.getD,a])
end Go.Proofs.YtckocaibjciplaaGreatDoor
set_option linter.all false
set_option maxHeartbeats 1600000
namespace Go.Proofs.YtckocaibjciplaaGreatDoor
open Go.Proofs.Tryz
open Go.RowKit Corb
variable {a:Option Addr}{b n:Nat}{l:List Int}{w w':World}
def jr(w:World)(b:Nat)(a:Option Addr)(l:List Int):Prop:=br w a l/\(0<l.length->∀x,a=some x->x.block≠b/\∀cur fr,w.heap[x.block]?≠some (.cells cur 5 fr))
def jr.keep(h:jr w b a l)(k:cj b w w'):jr w' b a l:=by
 by_cases c:0<l.length
 .
  obtain⟨g,o,e,j,m⟩:=h.1 c;obtain⟨f,h2⟩:=h.2 c _ e;have hb:=k.2 g j f h2;refine⟨fun _=>⟨g,o,e,a0h j k.1,fun i n=>?_⟩,fun _ x ex=>?_⟩
  . rw[←m i n];exact World.cell?_of_block (w:=w) hb
  .
   have:x=⟨g,o,none⟩:=by rw[ex]at e;exact a1v e
   subst this;exact⟨f,fun d fr=>by rw[hb];exact h2 d fr⟩
 . exact⟨fun h=>absurd h c,fun h=>absurd h c⟩
def jr.below(h:jr w b a l)(hb:Below w.heap.size w w'):jr w' b a l:=h.keep ⟨hb.size,fun k c _ _=>hb.block k c⟩
def On{base cap:Nat}(k:l.length=n)(h:w.ownsRow base 3 1 (.slice a n cap) n (l.map (Value.int .i64)))(hb:b<base):jr w b a l:=by
 refine⟨D6 k h,fun m x ex=>?_⟩;subst ex;rcases h.2 with⟨e,_⟩|⟨g,c,f,e,i,j,_⟩
 . cases e
 . simp only[a0L,a0k]at e;obtain⟨rfl,_⟩:=e;refine⟨by show g≠b;omega,fun d fr=>?_⟩;show w.heap[g]?≠_;rw[j];intro e;cases e
def fQ{base cap:Nat}(c:l.length=n)(h:an w base (.slice a n cap) l)(hb:b<base):jr w b a l:=On c (h.own c) hb
def bf(p:Nat×Nat)(l:List (Int×Int)):Nat×Nat:=iR p (nF l)
def bn(p:Nat×Nat)(l m:List (Int×Int)):bf p (l++m)=bf (bf p l) m:=by
 unfold bf nF;rw[a0J,nM]
def pcM(l:List Int)(k:Nat):Int×Int:=((rv (l.getD k 0).toNat ((aV l 15).2.getD k 0).toNat:Nat),l.getD k 0)
def Out.kept{V m:Nat}(h:Out w b V m)(hb:Below w.heap.size w w'):Out w' b V m:=by
 obtain⟨c,v,a,e⟩:=h;refine⟨c,v,Three.kept a (hb.mono a.2.2.2.2.2.2),?_⟩;exact a1U e (row:=none) ⟨hb.os,hb.tape,hb.output,hb.size,fun k d _=>hb.block k d⟩ (by
  cases f:v.ownBlock with
  | none=>exact .inl rfl
  | some k=>exact .inr (by simp))
def Out.lt{V m:Nat}(h:Out w b V m):b<w.heap.size:=by
 obtain⟨_,_,a,_⟩:=h;exact a.2.2.2.2.2.2
def kB(w:World)(b:Nat)(p:Nat×Nat):Prop:=Out w b p.1 p.2
def fy(b:Nat)(p:Nat×Nat)(num bits:Int)(w:World)(h:kB w b p)(c:pOk num bits=true)(k:p.2<=100000) :
  Calls prog 184 #[.pointer b,num,bits] w fun e w'=>e = .returned (.tuple #[])/\kB w' b (bf p [(num,bits)])/\KB b w w':=by
 obtain⟨⟨f,g⟩,n0,n1⟩:=aS.1 c;have a:num.toNat<p2 bits.toNat:=by
  have:(num.toNat:Int)<((p2 bits.toNat:Nat):Int):=by rw[a3j n0];exact n1
  omega
 have i:p2 bits.toNat<=p2 16:=a0P (by omega) (by omega);have e16:p2 16=65536:=by decide
 apply(OD b p.1 p.2 num bits w h n0 (by omega) f g k).mono;rintro e w'⟨rfl,d,j⟩;refine⟨rfl,?_,j⟩;rw[a1e a]at d;exact d
def pJ{k:Nat}(h:0<=l.getD k 0/\l.getD k 0<=15):pOk (pcM l k).1 (pcM l k).2=true:=by
 refine aS.2 ⟨⟨h.1,by show l.getD k 0<=16;omega⟩,by show(0:Int)<=((_:Nat):Int);omega,?_⟩;show((rv (l.getD k 0).toNat ((aV l 15).2.getD k 0).toNat:Nat):Int)<((p2 (l.getD k 0).toNat:Nat):Int);have:=OP (l.getD k 0).toNat ((aV l 15).2.getD k 0).toNat
 unfold p2;omega
theorem rj(b:Nat)(p:Nat×Nat)(a ac:Option Addr)(cap n u k:Nat)(l:List Int)(w:World)(v:kB w b p)(q:l.length=n)(h:br w a l)(g:br w ac (aV l 15).2)(y:k<n)(z:n<=300)(r:0<=l.getD k 0/\l.getD k 0<=15)(x:0<=(aV l 15).2.getD k 0/\(aV l 15).2.getD k 0<65536)(A:p.2<=100000) :
  Calls prog 222 #[.pointer b,.slice a n cap,.slice ac n u,.int .i64 (k:Int)] w fun e w'=>e = .returned (.tuple #[])/\kB w' b (bf p [pcM l k])/\KB b w w':=by
 have HP:=af (Bkx.l3Piece_any a ac cap n u k l (aV l 15).2 w q ((bz l 15).trans q) h g y z r x);have j:=af (pJ r);have f:Hid (pcM l k=(((rv (l.getD k 0).toNat ((aV l 15).2.getD k 0).toNat:Nat):Int),l.getD k 0)):=rfl;rw[ae f]at j;generalize pcM l k=PC at *
 generalize rv (l.getD k 0).toNat ((aV l 15).2.getD k 0).toNat=R at *
 generalize l.getD k 0=Y at *
 have s:=af v;clear v h g r x q;go_enter func222,ntmps222;go_wp2_with fail;refine(ae HP).mono ?_;rintro e x1⟨rfl,c⟩;have d:Below w.heap.size w (x1.alloc (.cells #[R,Y] 159)):=c.alloc c.size _;have o:=af (Out.kept (ae s) d);have m:=af ((KB.refl b w).below d (a0r (Out.lt (ae s))));clear c d HP;go_wp2_with fail;refine(fy b p (R:Nat) Y _ (ae o) (ae j) A).mono ?_;rintro e x2⟨rfl,h2,i⟩;have t:=af (a0b h2 ((ae m).trans i));clear h2 i;go_wp2
 go_end0
 exact⟨rfl,by rw[ae f];exact(ae t).1,(ae t).2⟩
def bY(e:En):List Value:=[.string e.n,.int .i64 e.y,.int .i64 e.mo,.int .i64 e.d,.int .i64 e.h,.int .i64 e.mi,.int .i64 e.s,.string e.t]
def ib(e:En):(bY e).length=8:=rfl
def ie(e:En):∀u∈bY e,u.oneCell'=true:=by
 intro u a;simp only[bY,a01,a1y,a1t]at a;rcases a with rfl|rfl|rfl|rfl|rfl|rfl|rfl|rfl<;>rfl
abbrev dF(w:World)(base:Nat)(v:Value)(l:List En):Prop:=bU 34 8 bY w base v l
def RI{g o:Nat}{e:En}(h:∀j,j<8->w.cell? ⟨g,o+j,none⟩=(bY e)[j]?):RU w g o e:=
 ⟨h 0 (by omega),h 1 (by omega),h 2 (by omega),h 3 (by omega),h 4 (by omega),h 5 (by omega),h 6 (by omega),h 7 (by omega)⟩
def zR{base g cap:Nat}{l:List En}(c:l.length=n)(h:dF w base (.slice g n cap) l)(i:Nat)(a:i<n):RU w g (i*8) (l.getD i default):=
 RI fun j b=>(bU.at ib default c h i j a b).1
def eO{base cap:Nat}{l:List En}(c:l.length=n)(h:dF w base (.slice a n cap) l):jI w a l:=by
 intro b;obtain⟨g,rfl⟩:=h.somes b;refine⟨g,0,rfl,h.below.2,fun i d=>?_⟩;rw[a0H];exact zR c h i (by omega)
def Tryz.infoEnt:(prog.info? 34).map (fun i=>(i.zero,i.size,i.bytes))=some (some (.agg ()),8,80):=by kernel_rfl
