/- Of what the proof is made: 2 texts, one behind the other. -/
import Derived.Test.YtkpfkgoiaicgbaaGreatDoorFb2
import Derived.Test.YtkpfkgoiaicgbaaGreatDoorTi1
import Derived.Test.YtkpfkgoiaicgbaaGreatDoorM9
import Derived.Deep.RegionHeld3
import Derived.Test.YtkpfkgoiaicgbaaGreatDoorM5
set_option linter.unusedSimpArgs false
set_option linter.unusedVariables false
set_option maxHeartbeats 6400000
namespace Go.Proofs.YtkpfkgoiaicgbaaGreatDoor
open Go.RowKit Corb
theorem aP{P:Program}{ops:Array Oper}{rest:List Oper}{op:Oper}{a:Act}{w:World}{Q:Exit->Act->World->Prop}(hgd:op.guard=none)(ty:TypeId)(x:Operand)(ho:op.op = .load ty x)
  (b o:Nat) (hx:a.eval x = .pointer (some ⟨b,o,none⟩)) (C:Array Value) (d:TypeDesc) (hc:w.rangeAt b o C.toList) (hu:P.underlying ty=some d) (hd:d.isRow=true) (hi:(P.info? ty).map (·.size)=some C.size)
  (h:wpList P ops Q rest (a.put op.dst (.agg C)) w):wpList P ops Q (op :: rest) a w:=
 wpList_load_mid hgd ty x ho b o hx C.toList d hc hu hd (by simpa using hi) (by simpa using h)
theorem iz{w w':World}{b o:Nat}{cs:List Value}(h:w.rangeAt b o cs)(hb:Below w.heap.size w w')(hlt:b<w.heap.size):w'.rangeAt b o cs:=fun j v hv=>(hb.cell (p:=⟨b,o+j,none⟩) hlt).trans (h j v hv)
def yZ(w:World)(g:Nat)(l:List (Int×Int)):Prop:=w.heap[g]?=some (Obj.cells (aL l).toArray 180)
theorem yZ.cells{w:World}{g:Nat}{l:List (Int×Int)}(h:yZ w g l):∀(j:Nat) (u:Value),(aL l)[j]?=some u->w.cell? ((⟨g,0,none⟩:Addr).add j)=some u:=by
 intro j u hj;have e1:(⟨g,0,none⟩:Addr).add j=⟨g,j,none⟩:=by unfold Addr.add;split<;>simp_all
 rw[e1,bn h];simpa using hj
def pcS(l:List Int)(k:Nat):Int×Int:=(btI ((bB l 15).2.getD k 0) (l.getD k 0),l.getD k 0)
def pcT(L D:List Int)(t:Tk):List (Int×Int):=
 if isB t then [pcS L t.1.toNat]
 else [pcS L (257+fnd 3 4 t.2.1.toNat 27),((t.2.1.toNat:Int)-((stF 3 4 (fnd 3 4 t.2.1.toNat 27)).1:Int),((stF 3 4 (fnd 3 4 t.2.1.toNat 27)).2:Nat)),pcS D (fnd 1 2 t.2.2.toNat 29),((t.2.2.toNat:Int)-((stF 1 2 (fnd 1 2 t.2.2.toNat 29)).1:Int),((stF 1 2 (fnd 1 2 t.2.2.toNat 29)).2:Nat))]
set_option maxRecDepth 100000 in
theorem Iq(k base:Nat)(L D:List Int)(C:Array Value)(w:World)(hB:cY w base L D C)(hk:k<L.length)(hk8:k<=255)(hL:L.length<=300) :
  Calls Tryz.prog 160 #[.agg C,.iface 252 (.int .u8 (k:Nat))] w fun e w'=>(∃g,e = .returned (.slice (some ⟨g,0,none⟩) 1 1)/\yZ w' g [pcS L k])/\Below w.heap.size w w':=by
 obtain⟨C1,C2,rfl,h1,h2⟩:=hB;have hkI:(k:Int)<=255:=by omega
 have hBA:Below w.heap.size w (w.alloc (.cells (C1++C2) 191)):=(Below.refl _ _).alloc (Nat.le_refl _) _;have HR:=af (fU (alloc_at w (.cells (C1++C2) 191)) h1.size).1;have HP:=af (fun W (hW:Below w.heap.size w W)=>mq k L C1 base W (h1.later hW) hk hL);have hAs:=jd (.int .u8 (k:Nat)) (w.alloc (.cells (C1++C2) 191));have HS:=af h1.size;have HBA:=af hBA;have HPc:Hid (pcS L k=(btI ((bB L 15).2.getD k 0) (L.getD k 0),L.getD k 0)):=rfl;generalize btI ((bB L 15).2.getD k 0) (L.getD k 0)=u at *
 generalize L.getD k 0=v at *
 clear h1 h2 hk hL hBA hk8;go_enter Tryz.func160,Tryz.ntmps160;go_wp2_with (first
  | (refine aP rfl 186 (.tmp 12) rfl w.heap.size 0 rfl C1 _ (ae HR) Tryz.underlying186 rfl (by rw[ae HS];exact Tryz.infoLitB) ?_)
  | (go_at_call 161;refine(ae HP _ (ae HBA)).mono ?_;rintro e x1 ⟨rfl,hb1⟩))
 go_ret;refine⟨⟨x1.heap.size,rfl,?_⟩,aj (ae HBA) (hb1.alloc hb1.size _)⟩;rw[ae HPc];exact alloc_at _ _
theorem cA{P:Program}{ops:Array Oper}{S:World->Prop}{op:Oper}{a:Act}(hw:Region.wanted op (yielded ops a.tmps)=true)(ty:TypeId)(x:Operand)(ho:op.op = .load ty x)
  (b o:Nat) (hx:a.eval x = .pointer (some ⟨b,o,none⟩)) (C:Array Value) (d:TypeDesc) (hS:∀w,S w->w.rangeAt b o C.toList)
  (hu:P.underlying ty=some d) (hd:d.isRow=true) (hi:(P.info? ty).map (·.size)=some C.size):YieldsIf P ops S op (.agg C) a:=by
 have:=yieldsIf_load_mid (S:=S) hw ty x ho b o hx C.toList d hS hu hd (by simpa using hi);simpa using this
set_option maxRecDepth 100000 in
theorem Is(y z base:Nat)(L D:List Int)(C:Array Value)(w:World)(hB:cY w base L D C)(y0:3<=y)(y1:y<=60)(z0:1<=z)(z1:z<=250)(hkL:257+fnd 3 4 y 27<L.length)(hkD:fnd 1 2 z 29<D.length)(hL:L.length<=300)(hD:D.length<=300) :
  Calls Tryz.prog 160 #[.agg C,.iface 254 (.agg #[.int .i64 (y:Nat),.int .i64 (z:Nat)])] w fun e w'=>(∃g,e = .returned (.slice (some ⟨g,0,none⟩) 4 4)/\yZ w' g [pcS L (257+fnd 3 4 y 27),((y:Int)-((stF 3 4 (fnd 3 4 y 27)).1:Int),((stF 3 4 (fnd 3 4 y 27)).2:Nat)),pcS D (fnd 1 2 z 29),((z:Int)-((stF 1 2 (fnd 1 2 z 29)).1:Int),((stF 1 2 (fnd 1 2 z 29)).2:Nat))])/\Below w.heap.size w w':=by
 obtain⟨C1,C2,rfl,h1,h2⟩:=hB;have hmix:Tryz.prog.follows .mixedOrders=true:=by kernel_rfl
 have HSp:=af (fun W=>yk y z W y0 y1 z0 z1);have HPL:=af (fun W (hW:Below w.heap.size w W)=>mq (257+fnd 3 4 y 27) L C1 base W (h1.later hW) hkL hL);have HPD:=af (fun W (hW:Below w.heap.size w W)=>wg (fnd 1 2 z 29) D C2 base W (h2.later hW) hkD hD);have HPc1:Hid (pcS L (257+fnd 3 4 y 27)=(btI ((bB L 15).2.getD (257+fnd 3 4 y 27) 0) (L.getD (257+fnd 3 4 y 27) 0),L.getD (257+fnd 3 4 y 27) 0)):=rfl;have HPc2:Hid (pcS D (fnd 1 2 z 29)=(btI ((bB D 15).2.getD (fnd 1 2 z 29) 0) (D.getD (fnd 1 2 z 29) 0),D.getD (fnd 1 2 z 29) 0)):=rfl;have eL:((257+fnd 3 4 y 27:Nat):Int)=257+((fnd 3 4 y 27:Nat):Int):=by omega
 rw[eL]at HPL;generalize pcS L (257+fnd 3 4 y 27)=P1 at *
 generalize pcS D (fnd 1 2 z 29)=P2 at *
 generalize btI ((bB L 15).2.getD (257+fnd 3 4 y 27) 0) (L.getD (257+fnd 3 4 y 27) 0)=p1 at *
 generalize L.getD (257+fnd 3 4 y 27) 0=q1 at *
 generalize btI ((bB D 15).2.getD (fnd 1 2 z 29) 0) (D.getD (fnd 1 2 z 29) 0)=p2 at *
 generalize D.getD (fnd 1 2 z 29) 0=q2 at *
 generalize stF 3 4 (fnd 3 4 y 27)=E at *
 generalize stF 1 2 (fnd 1 2 z 29)=E' at *
 generalize fnd 3 4 y 27=f at *
 generalize fnd 1 2 z 29=f' at *
 have hk0:=af (fU (alloc_at w (.cells (C1++C2) 191)) h1.size);have hu1:=Tryz.underlying186;have hu2:=Tryz.underlying189;have hi1:(Tryz.prog.info? 186).map (·.size)=some C1.size:=by rw[h1.size];exact Tryz.infoLitB
 have hi2:(Tryz.prog.info? 189).map (·.size)=some C2.size:=by rw[h2.size];exact Tryz.infoDistB
 have HU:=af (And.intro hu1 (And.intro hu2 (And.intro hi1 hi2)));have HBA:Hid (Below w.heap.size w (w.alloc (.cells (C1++C2) 191))):=(Below.refl _ _).alloc (Nat.le_refl _) _;have hNo:=kU (.agg #[.int .i64 (y:Nat),.int .i64 (z:Nat)]) (w.alloc (.cells (C1++C2) 191));have hYes:=jc (.agg #[.int .i64 (y:Nat),.int .i64 (z:Nat)]) (w.alloc (.cells (C1++C2) 191));clear h1 h2 hkL hkD hL hD y0 y1 z0 z1 eL hu1 hu2 hi1 hi2;go_enter Tryz.func160,Tryz.ntmps160;go_wp2_with fail;refine(ae HSp _).mono ?_;rintro e x1 ⟨rfl,hb1⟩;have hbx:Below (w.heap.size+1) (w.alloc (.cells (C1++C2) 191)) x1:=by
  have h0:Below (w.heap.size+1) (w.alloc (.cells (C1++C2) 191)) ((w.alloc (.cells (C1++C2) 191)).alloc (.cells #[.int .i64 (y:Nat),.int .i64 (z:Nat)] 254)):=(Below.refl _ _).alloc (by simp) _;exact h0.trans (hb1.mono (by simp))
 clear hb1 hNo hYes;go_wp2_with fail;obtain⟨W8,hW8⟩:∃W,W=x1.alloc (.cells #[.int .i64 (257+(f:Int)),.int .i64 ((y:Int)-(E.1:Int)),.int .i64 (E.2:Nat),.int .i64 (f':Nat),.int .i64 ((z:Int)-(E'.1:Int)),.int .i64 (E'.2:Nat)] 256):=⟨_,rfl⟩;have hk8:W8.heap[x1.heap.size]?=some (.cells #[.int .i64 (257+(f:Int)),.int .i64 ((y:Int)-(E.1:Int)),.int .i64 (E.2:Nat),.int .i64 (f':Nat),.int .i64 ((z:Int)-(E'.1:Int)),.int .i64 (E'.2:Nat)] 256):=by rw[hW8];exact alloc_at _ _
 have hs8:W8.heap.size=x1.heap.size+1:=by rw[hW8];exact cV _ _
 have hb8:Below (w.heap.size+1) (w.alloc (.cells (C1++C2) 191)) W8:=by
  rw[hW8];exact hbx.alloc (by have:=hbx.size;simpa using this) _
 have hw8:Below w.heap.size w W8:=(ae HBA).trans (hb8.mono (by omega));have hsz8:w.heap.size+1<=W8.heap.size:=by have:=hb8.size;simpa using this
 have hSW:∀W,Below W8.heap.size W8 W->W.rangeAt w.heap.size 0 C1.toList/\W.rangeAt w.heap.size 19 C2.toList/\W.cell? ⟨x1.heap.size,0,none⟩=some (.int .i64 (257+(f:Int)))/\W.cell? ⟨x1.heap.size,1,none⟩=some (.int .i64 ((y:Int)-(E.1:Int)))/\W.cell? ⟨x1.heap.size,2,none⟩=some (.int .i64 (E.2:Nat))/\W.cell? ⟨x1.heap.size,3,none⟩=some (.int .i64 (f':Nat))/\W.cell? ⟨x1.heap.size,4,none⟩=some (.int .i64 ((z:Int)-(E'.1:Int)))/\W.cell? ⟨x1.heap.size,5,none⟩=some (.int .i64 (E'.2:Nat)):=by
  intro W hW;have hb:=(hW.block _ (by omega:x1.heap.size<W8.heap.size)).trans hk8;have hB:=hb8.trans (hW.mono hsz8);exact⟨fun j v hv=>(hB.cell (p:=⟨w.heap.size,0+j,none⟩) (Nat.lt_succ_self _)).trans ((ae hk0).1 j v hv),fun j v hv=>(hB.cell (p:=⟨w.heap.size,19+j,none⟩) (Nat.lt_succ_self _)).trans ((ae hk0).2 j v hv),bn hb 0,bn hb 1,bn hb 2,bn hb 3,bn hb 4,bn hb 5⟩
 have HSW:=af hSW;have HW8:=af hw8;have hD8:Below W8.heap.size W8 W8.drew:=(Below.refl _ W8).drew;rw[←hW8];clear hW8 hk8 hs8 hb8 hbx hw8 hSW hk0;obtain⟨hu1,hu2,hi1,hi2⟩:=ae HU;refine wp_region_held_drew (S:=fun W=>W.rangeAt w.heap.size 0 C1.toList/\W.rangeAt w.heap.size 19 C2.toList/\W.cell? ⟨x1.heap.size,0,none⟩=some (.int .i64 (257+(f:Int)))/\W.cell? ⟨x1.heap.size,1,none⟩=some (.int .i64 ((y:Int)-(E.1:Int)))/\W.cell? ⟨x1.heap.size,2,none⟩=some (.int .i64 (E.2:Nat))/\W.cell? ⟨x1.heap.size,3,none⟩=some (.int .i64 (f':Nat))/\W.cell? ⟨x1.heap.size,4,none⟩=some (.int .i64 ((z:Int)-(E'.1:Int)))/\W.cell? ⟨x1.heap.size,5,none⟩=some (.int .i64 (E'.2:Nat))) hmix (ae HSW _ hD8) (fun hS=>?_);refine ag 0 (.pointer (some ⟨w.heap.size,0,none⟩)) rfl (by kernel_rfl) (fun _ _ _ h=>h) rfl (?_) hS ?_
 · intro W hSw;obtain⟨s0,s1,s2,s3,s4,s5,s6,s7⟩:=hSw;go_simp
 refine wpAnyH_take (i:=1) (v:=.agg C1) rfl (by kernel_rfl) (by kernel_rfl) (by kernel_rfl) (fun _ _ _ h=>h) (cA (by rfl) 186 (.tmp 23) rfl w.heap.size 0 rfl C1 _ (fun _ h=>h.1) hu1 rfl hi1) hS ?_;refine ag 2 (.pointer (some ⟨x1.heap.size,0,none⟩)) rfl (by kernel_rfl) (fun _ _ _ h=>h) rfl (?_) hS ?_
 · intro W hSw;obtain⟨s0,s1,s2,s3,s4,s5,s6,s7⟩:=hSw;go_simp
 refine ag 3 (.int .i64 (257+(f:Int))) rfl (by kernel_rfl) (fun _ _ _ h=>h) rfl (?_) hS ?_
 · intro W hSw;obtain⟨s0,s1,s2,s3,s4,s5,s6,s7⟩:=hSw;go_simp
 refine ag 5 (.pointer (some ⟨x1.heap.size,1,none⟩)) rfl (by kernel_rfl) (fun _ _ _ h=>h) rfl (?_) hS ?_
 · intro W hSw;obtain⟨s0,s1,s2,s3,s4,s5,s6,s7⟩:=hSw;go_simp
 refine ag 6 (.agg #[.int .i64 ((y:Int)-(E.1:Int)),.int .i64 (E.2:Nat)]) rfl (by kernel_rfl) (fun _ _ _ h=>h) rfl (?_) hS ?_
 · intro W hSw;obtain⟨s0,s1,s2,s3,s4,s5,s6,s7⟩:=hSw;go_simp
 refine ag 7 (.pointer (some ⟨w.heap.size,19,none⟩)) rfl (by kernel_rfl) (fun _ _ _ h=>h) rfl (?_) hS ?_
 · intro W hSw;obtain⟨s0,s1,s2,s3,s4,s5,s6,s7⟩:=hSw;go_simp
 refine wpAnyH_take (i:=8) (v:=.agg C2) rfl (by kernel_rfl) (by kernel_rfl) (by kernel_rfl) (fun _ _ _ h=>h) (cA (by rfl) 189 (.tmp 30) rfl w.heap.size 19 rfl C2 _ (fun _ h=>h.2.1) hu2 rfl hi2) hS ?_;refine ag 9 (.pointer (some ⟨x1.heap.size,3,none⟩)) rfl (by kernel_rfl) (fun _ _ _ h=>h) rfl (?_) hS ?_
 · intro W hSw;obtain⟨s0,s1,s2,s3,s4,s5,s6,s7⟩:=hSw;go_simp
 refine ag 10 (.int .i64 (f':Nat)) rfl (by kernel_rfl) (fun _ _ _ h=>h) rfl (?_) hS ?_
 · intro W hSw;obtain⟨s0,s1,s2,s3,s4,s5,s6,s7⟩:=hSw;go_simp
 refine ag 12 (.pointer (some ⟨x1.heap.size,4,none⟩)) rfl (by kernel_rfl) (fun _ _ _ h=>h) rfl (?_) hS ?_
 · intro W hSw;obtain⟨s0,s1,s2,s3,s4,s5,s6,s7⟩:=hSw;go_simp
 refine ag 13 (.agg #[.int .i64 ((z:Int)-(E'.1:Int)),.int .i64 (E'.2:Nat)]) rfl (by kernel_rfl) (fun _ _ _ h=>h) rfl (?_) hS ?_
 · intro W hSw;obtain⟨s0,s1,s2,s3,s4,s5,s6,s7⟩:=hSw;go_simp
 refine ah 4 (by kernel_rfl) rfl fun K hK=>?_;go_simp;go_at_call 161;refine(ae HPL _ (ae HW8).drew).mono ?_;rintro e x2 ⟨rfl,hb2⟩;have hB2:Below W8.heap.size W8 x2:=aj hD8 hb2;refine Shut.out hK _ _ (ae HSW _ hB2) (fun hS2=>?_);clear hK K hb2;refine ah 11 (by kernel_rfl) rfl fun K hK=>?_;go_simp;go_at_call 188;refine(ae HPD _ (aj (ae HW8) hB2)).mono ?_;rintro e x3 ⟨rfl,hb3⟩;have hB3:Below W8.heap.size W8 x3:=aj hB2 hb3;refine Shut.out hK _ _ (ae HSW _ hB3) (fun hS3=>?_);clear hK K hb3;refine ah 14 (by kernel_rfl) rfl fun K hK=>?_;go_simp;have hB4:Below W8.heap.size W8 (x3.alloc (.cells #[.int .i64 p1,.int .i64 q1,.int .i64 ((y:Int)-(E.1:Int)),.int .i64 (E.2:Nat),.int .i64 p2,.int .i64 q2,.int .i64 ((z:Int)-(E'.1:Int)),.int .i64 (E'.2:Nat)] 180)):=hB3.alloc hB3.size _;refine Shut.out hK _ _ (ae HSW _ hB4) (fun hS4=>?_);clear hK K hS4 hS3 hS2 hS;refine ah 15 (by kernel_rfl) rfl fun K hK=>?_;go_simp;refine Shut.out hK _ _ (ae HSW _ hB4) (fun hS4=>?_);clear hK K hS4;refine wpAnyH_done (by kernel_rfl) ?_ _;have HPB:Hid (yZ (x3.alloc (.cells #[.int .i64 p1,.int .i64 q1,.int .i64 ((y:Int)-(E.1:Int)),.int .i64 (E.2:Nat),.int .i64 p2,.int .i64 q2,.int .i64 ((z:Int)-(E'.1:Int)),.int .i64 (E'.2:Nat)] 180)) x3.heap.size [P1,((y:Int)-(E.1:Int),(E.2:Nat)),P2,((z:Int)-(E'.1:Int),(E'.2:Nat))]):=by
  show yZ _ _ _;rw[ae HPc1,ae HPc2];exact alloc_at _ _
 have HB4:=af (aj (ae HW8) hB4);clear hB4 hB3 hB2 hD8;go_wp2;go_ret;exact⟨⟨x3.heap.size,rfl,ae HPB⟩,ae HB4⟩
def D4:Array Value:=(bw.map fun i=>Value.int .i64 (i:Nat)).toArray
def dk(w:World):Prop:=w.rangeAt 1 0 D4.toList/\1<w.heap.size
theorem dk.later{w w':World}(h:dk w)(hb:Below w.heap.size w w'):dk w':=⟨iz h.1 hb h.2,Nat.lt_of_lt_of_le h.2 hb.size⟩
theorem xJ(k:Nat)(h:k<19):D4[k]?=some (.int .i64 (bw.getD k 0:Nat)):=by
 unfold D4;have:k<bw.length:=h;simp[List.getD,this]
theorem Tryz.infoOrd:(Tryz.prog.info? 268).map (·.size)=some 19:=by kernel_rfl
theorem D6(j:Nat)(h:j<19)(w:World):(Instr.index 268 (.agg D4) (.int .i64 (j:Int))).run Tryz.prog w = .ok (.int .i64 (bw.getD j 0:Nat)) w:=by
 rcases (show j=0∨j=1∨j=2∨j=3∨j=4∨j=5∨j=6∨j=7∨j=8∨j=9∨j=10∨j=11∨j=12∨j=13∨j=14∨j=15∨j=16∨j=17∨j=18 by omega)with rfl|rfl|rfl|rfl|rfl|rfl|rfl|rfl|rfl|rfl|rfl|rfl|rfl|rfl|rfl|rfl|rfl|rfl|rfl<;>kernel_rfl
theorem Hw(j:Nat)(h:j<19):bw.getD j 0<19:=by
 have:∀i∈bw,i<19:=by decide
 have hj:j<bw.length:=h;exact this _ (by simp[List.getD,hj])
end Go.Proofs.YtkpfkgoiaicgbaaGreatDoor
