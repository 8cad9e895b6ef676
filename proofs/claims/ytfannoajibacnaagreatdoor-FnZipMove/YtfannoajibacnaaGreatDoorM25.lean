/- Texts. -/
import Derived.Test.YtfannoajibacnaaGreatDoorM24
import Derived.Test.YtfannoajibacnaaGreatDoorTi1
set_option linter.all false
set_option maxRecDepth 100000
set_option maxHeartbeats 6400000
namespace Go.Proofs.YtfannoajibacnaaGreatDoor
open Go.Proofs.Tryz
open Go.RowKit Corb
variable {w:World}
def br{P:Program}{ops:Array Oper}{rest:List Oper}{op:Oper}{a:Act}{Q:Exit->Act->World->Prop}(c:op.guard=none)(ty:TypeId)(x:Operand)(g:op.op = .load ty x)
  (b o:Nat) (j:a.eval x = .pointer (some ⟨b,o,none⟩)) (C:Array Value) (d:TypeDesc) (e:w.rangeAt b o C.toList) (i:P.underlying ty=some d) (hd:d.isRow=true) (f:(P.info? ty).map (·.size)=some C.size)
  (h:wpList P ops Q rest (a.put op.dst (.agg C)) w):wpList P ops Q (op :: rest) a w:=
 wpList_load_mid c ty x g b o j C.toList d e i hd (by simpa using f) (by simpa using h)
def lu{w':World}{b o:Nat}{c:List Value}(h:w.rangeAt b o c)(hb:Below w.heap.size w w')(a:b<w.heap.size):w'.rangeAt b o c:=fun j v d=>(hb.cell (p:=⟨b,o+j,none⟩) a).trans (h j v d)
def F8(w:World)(g:Nat)(l:List (Int×Int)):Prop:=w.heap[g]?=some (Obj.cells (aY l).toArray 167)
def F8.cells{g:Nat}{l:List (Int×Int)}(h:F8 w g l):∀(j:Nat) (u:Value),(aY l)[j]?=some u->w.cell? ((⟨g,0,none⟩:Addr).add j)=some u:=by
 intro j u a;have e1:(⟨g,0,none⟩:Addr).add j=⟨g,j,none⟩:=by unfold Addr.add;split<;>simp_all
 rw[e1,bH h];simpa using a
def pcS(l:List Int)(k:Nat):Int×Int:=(btI ((aW l 15).2.getD k 0) (l.getD k 0),l.getD k 0)
def pcT(L D:List Int)(t:Tk):List (Int×Int):=
 if isB t then [pcS L t.1.toNat]
 else [pcS L (257+fnd 3 4 t.2.1.toNat 27),((t.2.1.toNat:Int)-((stF 3 4 (fnd 3 4 t.2.1.toNat 27)).1:Int),((stF 3 4 (fnd 3 4 t.2.1.toNat 27)).2:Nat)),pcS D (fnd 1 2 t.2.2.toNat 29),((t.2.2.toNat:Int)-((stF 1 2 (fnd 1 2 t.2.2.toNat 29)).1:Int),((stF 1 2 (fnd 1 2 t.2.2.toNat 29)).2:Nat))]
def PR(k base:Nat)(L D:List Int)(C:Array Value)(w:World)(q:ff w base L D C)(m:k<L.length)(j:k<=255)(l:L.length<=300) :
  Calls prog 176 #[.agg C,.iface 246 (.int .u8 (k:Nat))] w fun e w'=>(∃g,e = .returned (.slice (some ⟨g,0,none⟩) 1 1)/\F8 w' g [pcS L k])/\Below w.heap.size w w':=by
 obtain⟨a,h,rfl,f,h2⟩:=q;have s:(k:Int)<=255:=by omega
 have c:Below w.heap.size w (w.alloc (.cells (a++h) 200)):=cC;have n:=af (jy (alloc_at w (.cells (a++h) 200)) f.size).1;have HP:=af (fun W (r:Below w.heap.size w W)=>qh k L a base W (f.later r) m l);have p:=pT (.int .u8 (k:Nat)) (w.alloc (.cells (a++h) 200));have o:=af f.size;have b:=af c;have i:Hid (pcS L k=(btI ((aW L 15).2.getD k 0) (L.getD k 0),L.getD k 0)):=rfl;generalize btI ((aW L 15).2.getD k 0) (L.getD k 0)=u,L.getD k 0=v at *;clear f h2 m l c j;go_enter func176,ntmps176;go_wp2_with (first
  | (refine br rfl 195 (.tmp 12) rfl w.heap.size 0 rfl a _ n a2m rfl (by rw[ae o];exact Tryz.infoLitB) ?_)
  | (go_at_call 177;apply(HP _ (ae b)).mono;rintro e x1⟨rfl,d⟩))
 go_ret;refine⟨⟨x1.heap.size,rfl,?_⟩,aj b (d.alloc d.size _)⟩;rw[ae i];exact alloc_at _ _
def dR{P:Program}{ops:Array Oper}{S:World->Prop}{op:Oper}{a:Act}(h:Region.wanted op (yielded ops a.tmps)=true)(ty:TypeId)(x:Operand)(f:op.op = .load ty x)
  (b o:Nat) (i:a.eval x = .pointer (some ⟨b,o,none⟩)) (C:Array Value) (d:TypeDesc) (c:∀w,S w->w.rangeAt b o C.toList)
  (g:P.underlying ty=some d) (hd:d.isRow=true) (e:(P.info? ty).map (·.size)=some C.size):YieldsIf P ops S op (.agg C) a:=by
 have:=yieldsIf_load_mid (S:=S) h ty x f b o i C.toList d c g hd (by simpa using e);simpa using this
theorem PS(y z base:Nat)(L D:List Int)(C:Array Value)(w:World)(hB:ff w base L D C)(y0:3<=y)(y1:y<=60)(z0:1<=z)(z1:z<=250)(V:257+fnd 3 4 y 27<L.length)(U:fnd 1 2 z 29<D.length)(hL:L.length<=300)(hD:D.length<=300) :
  Calls prog 176 #[.agg C,.iface 248 (.agg #[y,z])] w fun e w'=>(∃g,e = .returned (.slice (some ⟨g,0,none⟩) 4 4)/\F8 w' g [pcS L (257+fnd 3 4 y 27),((y:Int)-((stF 3 4 (fnd 3 4 y 27)).1:Int),((stF 3 4 (fnd 3 4 y 27)).2:Nat)),pcS D (fnd 1 2 z 29),((z:Int)-((stF 1 2 (fnd 1 2 z 29)).1:Int),((stF 1 2 (fnd 1 2 z 29)).2:Nat))])/\Below w.heap.size w w':=by
 obtain⟨b,c,rfl,h1,h2⟩:=hB;have X:=cE
 have al:=af (fun W=>Fj y z W y0 y1 z0 z1);have I:=af (fun W (H:Below w.heap.size w W)=>qh (257+fnd 3 4 y 27) L b base W (h1.later H) V hL);have ad:=af (fun W (H:Below w.heap.size w W)=>Dk (fnd 1 2 z 29) D c base W (h2.later H) U hD);have J:Hid (pcS L (257+fnd 3 4 y 27)=(btI ((aW L 15).2.getD (257+fnd 3 4 y 27) 0) (L.getD (257+fnd 3 4 y 27) 0),L.getD (257+fnd 3 4 y 27) 0)):=rfl;have M:Hid (pcS D (fnd 1 2 z 29)=(btI ((aW D 15).2.getD (fnd 1 2 z 29) 0) (D.getD (fnd 1 2 z 29) 0),D.getD (fnd 1 2 z 29) 0)):=rfl;have eL:((257+fnd 3 4 y 27:Nat):Int)=257+((fnd 3 4 y 27:Nat):Int):=by omega
 rw[eL]at I;generalize pcS L (257+fnd 3 4 y 27)=P1 at *
 generalize pcS D (fnd 1 2 z 29)=P2 at *
 generalize btI ((aW L 15).2.getD (257+fnd 3 4 y 27) 0) (L.getD (257+fnd 3 4 y 27) 0)=p1 at *
 generalize L.getD (257+fnd 3 4 y 27) 0=q1 at *
 generalize btI ((aW D 15).2.getD (fnd 1 2 z 29) 0) (D.getD (fnd 1 2 z 29) 0)=p2 at *
 generalize D.getD (fnd 1 2 z 29) 0=q2 at *
 generalize stF 3 4 (fnd 3 4 y 27)=E at *
 generalize stF 1 2 (fnd 1 2 z 29)=E' at *
 generalize fnd 3 4 y 27=f at *
 generalize fnd 1 2 z 29=f' at *
 have G:=af (jy (alloc_at w (.cells (b++c) 200)) h1.size);have t:=a2m;have u:=underlying198;have r:(prog.info? 195).map (·.size)=some b.size:=by rw[h1.size];exact Tryz.infoLitB
 have s:(prog.info? 198).map (·.size)=some c.size:=by rw[h2.size];exact Tryz.infoDistB
 have HU:=af (a0b t (a0b u (a0b r s)));have ab:Hid (Below w.heap.size w (w.alloc (.cells (b++c) 200))):=cC;have ao:=sr (.agg #[y,z]) (w.alloc (.cells (b++c) 200));have O:=pS (.agg #[y,z]) (w.alloc (.cells (b++c) 200));clear h1 h2 V U hL hD y0 y1 z0 z1 eL t u r s;go_enter func176,ntmps176;go_wp2_with fail;refine(ae al _).mono ?_;rintro e x1⟨rfl,P⟩;have F:Below (w.heap.size+1) (w.alloc (.cells (b++c) 200)) x1:=by
  have h0:Below (w.heap.size+1) (w.alloc (.cells (b++c) 200)) ((w.alloc (.cells (b++c) 200)).alloc (.cells #[y,z] 248)):=(a0c _ _).alloc (by simp) _;exact h0.trans (P.mono (by simp))
 clear P ao O;go_wp2_with fail;obtain⟨W8,hW8⟩:∃W,W=x1.alloc (.cells #[.int .i64 (257+(f:Int)),.int .i64 ((y:Int)-(E.1:Int)),.int .i64 (E.2:Nat),f',.int .i64 ((z:Int)-(E'.1:Int)),.int .i64 (E'.2:Nat)] 250):=⟨_,rfl⟩;have T:W8.heap[x1.heap.size]?=some (.cells #[.int .i64 (257+(f:Int)),.int .i64 ((y:Int)-(E.1:Int)),.int .i64 (E.2:Nat),f',.int .i64 ((z:Int)-(E'.1:Int)),.int .i64 (E'.2:Nat)] 250):=by rw[hW8];exact alloc_at _ _
 have a2:W8.heap.size=x1.heap.size+1:=by rw[hW8];exact ep _ _
 have q:Below (w.heap.size+1) (w.alloc (.cells (b++c) 200)) W8:=by
  rw[hW8];exact F.alloc (by have:=F.size;simpa using this) _
 have Z:Below w.heap.size w W8:=(ae ab).trans (q.mono (by omega));have Y:w.heap.size+1<=W8.heap.size:=by have:=q.size;simpa using this
 have N:∀W,Below W8.heap.size W8 W->W.rangeAt w.heap.size 0 b.toList/\W.rangeAt w.heap.size 19 c.toList/\W.cell? ⟨x1.heap.size,0,none⟩=some (.int .i64 (257+(f:Int)))/\W.cell? ⟨x1.heap.size,1,none⟩=some (.int .i64 ((y:Int)-(E.1:Int)))/\W.cell? ⟨x1.heap.size,2,none⟩=some (.int .i64 (E.2:Nat))/\W.cell? ⟨x1.heap.size,3,none⟩=some (.int .i64 (f':Nat))/\W.cell? ⟨x1.heap.size,4,none⟩=some (.int .i64 ((z:Int)-(E'.1:Int)))/\W.cell? ⟨x1.heap.size,5,none⟩=some (.int .i64 (E'.2:Nat)):=by
  intro W H;have hb:=(H.block _ (by omega:x1.heap.size<W8.heap.size)).trans T;have hB:=q.trans (H.mono Y);exact⟨fun j v hv=>(hB.cell (p:=⟨w.heap.size,0+j,none⟩) (a0j _)).trans ((ae G).1 j v hv),fun j v hv=>(hB.cell (p:=⟨w.heap.size,19+j,none⟩) (a0j _)).trans ((ae G).2 j v hv),bH hb 0,bH hb 1,bH hb 2,bH hb 3,bH hb 4,bH hb 5⟩
 have k:=af N;have x:=af Z;have A:Below W8.heap.size W8 W8.drew:=(a0c _ W8).drew;rw[←hW8];clear hW8 T a2 q F Z N G;obtain⟨t,u,r,s⟩:=ae HU;refine wp_region_held_drew (S:=fun W=>W.rangeAt w.heap.size 0 b.toList/\W.rangeAt w.heap.size 19 c.toList/\W.cell? ⟨x1.heap.size,0,none⟩=some (.int .i64 (257+(f:Int)))/\W.cell? ⟨x1.heap.size,1,none⟩=some (.int .i64 ((y:Int)-(E.1:Int)))/\W.cell? ⟨x1.heap.size,2,none⟩=some (.int .i64 (E.2:Nat))/\W.cell? ⟨x1.heap.size,3,none⟩=some (.int .i64 (f':Nat))/\W.cell? ⟨x1.heap.size,4,none⟩=some (.int .i64 ((z:Int)-(E'.1:Int)))/\W.cell? ⟨x1.heap.size,5,none⟩=some (.int .i64 (E'.2:Nat))) X (ae k _ A) (fun d=>?_);refine ag 0 (.pointer w.heap.size) rfl (?_) d ?_
 . intro W a;obtain⟨s0,s1,s2,s3,s4,s5,s6,s7⟩:=a;go_simp
 refine aq 1 (.agg b) rfl (dR (by rfl) 195 (.tmp 23) rfl w.heap.size 0 rfl b _ (fun _ h=>h.1) t rfl r) d ?_;refine ag 2 (.pointer x1.heap.size) rfl (?_) d ?_
 . intro W a;obtain⟨s0,s1,s2,s3,s4,s5,s6,s7⟩:=a;go_simp
 refine ag 3 (.int .i64 (257+(f:Int))) rfl (?_) d ?_
 . intro W a;obtain⟨s0,s1,s2,s3,s4,s5,s6,s7⟩:=a;go_simp
 refine ag 5 (.pointer (some ⟨x1.heap.size,1,none⟩)) rfl (?_) d ?_
 . intro W a;obtain⟨s0,s1,s2,s3,s4,s5,s6,s7⟩:=a;go_simp
 refine ag 6 (.agg #[.int .i64 ((y:Int)-(E.1:Int)),.int .i64 (E.2:Nat)]) rfl (?_) d ?_
 . intro W a;obtain⟨s0,s1,s2,s3,s4,s5,s6,s7⟩:=a;go_simp
 refine ag 7 (.pointer (some ⟨w.heap.size,19,none⟩)) rfl (?_) d ?_
 . intro W a;obtain⟨s0,s1,s2,s3,s4,s5,s6,s7⟩:=a;go_simp
 refine aq 8 (.agg c) rfl (dR (by rfl) 198 (.tmp 30) rfl w.heap.size 19 rfl c _ (fun _ h=>h.2.1) u rfl s) d ?_;refine ag 9 (.pointer (some ⟨x1.heap.size,3,none⟩)) rfl (?_) d ?_
 . intro W a;obtain⟨s0,s1,s2,s3,s4,s5,s6,s7⟩:=a;go_simp
 refine ag 10 (.int .i64 (f':Nat)) rfl (?_) d ?_
 . intro W a;obtain⟨s0,s1,s2,s3,s4,s5,s6,s7⟩:=a;go_simp
 refine ag 12 (.pointer (some ⟨x1.heap.size,4,none⟩)) rfl (?_) d ?_
 . intro W a;obtain⟨s0,s1,s2,s3,s4,s5,s6,s7⟩:=a;go_simp
 refine ag 13 (.agg #[.int .i64 ((z:Int)-(E'.1:Int)),.int .i64 (E'.2:Nat)]) rfl (?_) d ?_
 . intro W a;obtain⟨s0,s1,s2,s3,s4,s5,s6,s7⟩:=a;go_simp
 refine ah 4 fun K l=>?_;go_simp;go_at_call 177;refine(ae I _ (ae x).drew).mono ?_;rintro e x2⟨rfl,Q⟩;have m:Below W8.heap.size W8 x2:=aj A Q;refine Shut.out l _ _ (ae k _ m) (fun a0=>?_);clear l K Q;refine ah 11 fun K l=>?_;go_simp;go_at_call 212;refine(ae ad _ (aj (ae x) m)).mono ?_;rintro e x3⟨rfl,R⟩;have n:Below W8.heap.size W8 x3:=aj m R;refine Shut.out l _ _ (ae k _ n) (fun a1=>?_);clear l K R;refine ah 14 fun K l=>?_;go_simp;have o:Below W8.heap.size W8 (x3.alloc (.cells #[p1,q1,.int .i64 ((y:Int)-(E.1:Int)),.int .i64 (E.2:Nat),p2,q2,.int .i64 ((z:Int)-(E'.1:Int)),.int .i64 (E'.2:Nat)] 167)):=n.alloc n.size _;refine Shut.out l _ _ (ae k _ o) (fun B=>?_);clear l K B a1 a0 d;refine ah 15 fun K l=>?_;go_simp;refine Shut.out l _ _ (ae k _ o) (fun B=>?_);clear l K B;refine wpAnyH_done (by kernel_rfl) ?_ _;have ac:Hid (F8 (x3.alloc (.cells #[p1,q1,.int .i64 ((y:Int)-(E.1:Int)),.int .i64 (E.2:Nat),p2,q2,.int .i64 ((z:Int)-(E'.1:Int)),.int .i64 (E'.2:Nat)] 167)) x3.heap.size [P1,((y:Int)-(E.1:Int),(E.2:Nat)),P2,((z:Int)-(E'.1:Int),(E'.2:Nat))]):=by
  show F8 _ _ _;rw[ae J,ae M];exact alloc_at _ _
 have aa:=af (aj (ae x) o);clear o n m A;go_wp2;go_ret;exact⟨⟨x3.heap.size,rfl,ae ac⟩,ae aa⟩
def LH:Array Value:=(bK.map fun i=>Value.int .i64 (i:Nat)).toArray
def dp(w:World):Prop:=w.rangeAt 1 0 LH.toList/\1<w.heap.size
def dp.later{w':World}(h:dp w)(hb:Below w.heap.size w w'):dp w':=⟨lu h.1 hb h.2,a0h h.2 hb.size⟩
def EE(k:Nat)(h:k<19):LH[k]?=some (.int .i64 (bK.getD k 0:Nat)):=by
 unfold LH;have:k<bK.length:=h;simp[List.getD,this]
def Tryz.infoOrd:(prog.info? 261).map (·.size)=some 19:=by kernel_rfl
def LJ(j:Nat)(h:j<19)(w:World):(Instr.index 261 (.agg LH) (.int .i64 (j:Int))).run prog w = .ok (.int .i64 (bK.getD j 0:Nat)) w:=by
 rcases (show j=0∨j=1∨j=2∨j=3∨j=4∨j=5∨j=6∨j=7∨j=8∨j=9∨j=10∨j=11∨j=12∨j=13∨j=14∨j=15∨j=16∨j=17∨j=18 by omega)with rfl|rfl|rfl|rfl|rfl|rfl|rfl|rfl|rfl|rfl|rfl|rfl|rfl|rfl|rfl|rfl|rfl|rfl|rfl<;>kernel_rfl
def BH(j:Nat)(h:j<19):bK.getD j 0<19:=by
 have:∀i∈bK,i<19:=by decide
 have a:j<bK.length:=h;exact this _ (by simp[List.getD,a])
