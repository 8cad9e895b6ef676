/- Of what the proof is made: 4 texts, one behind the other. -/
import Derived.Test.YtfhdadkcophoaaaGreatDoorM9
import Derived.Deep.DeepCutAuto
import Derived.Test.YtfhdadkcophoaaaGreatDoorM2
import Derived.Test.YtfhdadkcophoaaaGreatDoorM10
import Derived.Test.YtfhdadkcophoaaaGreatDoorM6
import Derived.Deep.RegionHeld3
set_option linter.unusedSimpArgs false
set_option linter.unusedVariables false
set_option maxHeartbeats 3200000
namespace Go.Proofs.YtfhdadkcophoaaaGreatDoor
open Go.RowKit
theorem qI{x1 x2:World}{o:Obj}(h:Below (x1.alloc o).heap.size (x1.alloc o) x2):x2.heap[x1.heap.size]?=some o:=(h.block _ (by simp)).trans (alloc_at x1 o)
theorem td{x1 x2:World}{o:Obj}(h:Below (x1.alloc o).drew.heap.size (x1.alloc o).drew x2):x2.heap[x1.heap.size]?=some o:=(h.block _ (by simp)).trans (alloc_at x1 o)
theorem lA{w:World}{b:Nat}{cs:Array Value}{t:TypeId}(h:w.heap[b]?=some (Obj.cells cs t))(i:Nat)(u:Value):(w.setCell ⟨b,i,none⟩ u).heap[b]?=some (Obj.cells (cs.setIfInBounds i u) t):=by
 show(w.heap.modify b _)[b]?=_;rw[Array.getElem?_modify,a0d rfl,h];simp
theorem bo{w:World}{b:Nat}{cs:Array Value}{t:TypeId}(h:w.heap[b]?=some (Obj.cells cs t))(i:Nat):w.cell? ⟨b,i,none⟩=cs[i]?:=by simp[World.cell?,h]
theorem iZ{w:World}{b:Nat}{cs:Array Value}{t:TypeId}(h:w.heap[b]?=some (Obj.cells cs t))(i:Nat):w.frozen? ⟨b,i,none⟩=false:=by simp[World.frozen?,h]
set_option maxRecDepth 100000 in
theorem xS(y z:Nat)(w:World)(y0:3<=y)(y1:y<=60)(z0:1<=z)(z1:z<=250) :
  Calls Tryz.prog 149 #[.agg #[.int .i64 (y:Nat),.int .i64 (z:Nat)]] w fun e w'=>e = .returned (.agg #[.int .i64 (257+(fnd 3 4 y 27:Nat)),.int .i64 ((y:Int)-((stF 3 4 (fnd 3 4 y 27)).1:Int)),.int .i64 ((stF 3 4 (fnd 3 4 y 27)).2:Nat),.int .i64 (fnd 1 2 z 29:Nat),.int .i64 ((z:Int)-((stF 1 2 (fnd 1 2 z 29)).1:Int)),.int .i64 ((stF 1 2 (fnd 1 2 z 29)).2:Nat)])/\Below w.heap.size w w':=by
 have HL:=af (fun W=>ux y W y0 y1);have HK:=af (fun W=>uw z W z0 z1);have hf1:=iO 3 4 y 27;generalize stF 3 4 (fnd 3 4 y 27)=E at *
 generalize stF 1 2 (fnd 1 2 z 29)=E' at *
 generalize fnd 3 4 y 27=f at *
 generalize fnd 1 2 z 29=f' at *
 have hf1I:(f:Int)<=27:=by omega
 clear y0 y1 z0 z1 hf1;go_enter Tryz.func149,Tryz.ntmps149;go_wp2_with fail;have hbx:((w.alloc (.cells #[.int .i64 (y:Nat),.int .i64 (z:Nat)] 215)).alloc (.cells #[.int .i64 0,.int .i64 0,.int .i64 0,.int .i64 0,.int .i64 0,.int .i64 0] 217)).heap[w.heap.size]?=some (Obj.cells #[.int .i64 (y:Nat),.int .i64 (z:Nat)] 215):=(a09 _ _ _ (by simp)).trans (alloc_at _ _);have hB0:Below w.heap.size w ((w.alloc (.cells #[.int .i64 (y:Nat),.int .i64 (z:Nat)] 215)).alloc (.cells #[.int .i64 0,.int .i64 0,.int .i64 0,.int .i64 0,.int .i64 0,.int .i64 0] 217)):=((a0b _ w).alloc (a0a _) _).alloc (by simp) _;have hby:((w.alloc (.cells #[.int .i64 (y:Nat),.int .i64 (z:Nat)] 215)).alloc (.cells #[.int .i64 0,.int .i64 0,.int .i64 0,.int .i64 0,.int .i64 0,.int .i64 0] 217)).heap[w.heap.size+1]?=some (Obj.cells #[.int .i64 0,.int .i64 0,.int .i64 0,.int .i64 0,.int .i64 0,.int .i64 0] 217):=by
  have e:(w.alloc (.cells #[.int .i64 (y:Nat),.int .i64 (z:Nat)] 215)).heap.size=w.heap.size+1:=by simp
  have:=alloc_at (w.alloc (.cells #[.int .i64 (y:Nat),.int .i64 (z:Nat)] 215)) (.cells #[.int .i64 0,.int .i64 0,.int .i64 0,.int .i64 0,.int .i64 0,.int .i64 0] 217);rw[e]at this;exact this
 generalize (w.alloc (.cells #[.int .i64 (y:Nat),.int .i64 (z:Nat)] 215)).alloc (.cells #[.int .i64 0,.int .i64 0,.int .i64 0,.int .i64 0,.int .i64 0,.int .i64 0] 217)=W0 at *
 have hC:Hid (∀W,Below W0.heap.size W0 W->W.cell? ⟨w.heap.size,0,none⟩=some (.int .i64 (y:Nat))/\W.cell? ⟨w.heap.size,1,none⟩=some (.int .i64 (z:Nat))):=fun W h=>by
  have hb:=(h.block _ (dj hbx)).trans hbx;exact⟨by simp[World.cell?,hb],by simp[World.cell?,hb]⟩
 obtain⟨q0,q1⟩:=ae hC W0 (a0b _ _);have hl0:w.heap.size<W0.heap.size:=dj hbx;obtain⟨p0,p1⟩:=ae hC (W0.drew.alloc (.cells #[.int .i64 0,.int .i64 0] 146)) (((a0b _ W0).drew).alloc (by simp) _);have HBY:=af hby;have HB0:=af hB0;clear hbx hby hB0;go_cut[3,4] (fun a p wx=>a = .int .i64 (f:Nat)/\(∃b,p = .pointer (some ⟨b,0,none⟩)/\wx.heap[b]?=some (Obj.cells #[.int .i64 ((y:Int)-(E.1:Int)),.int .i64 (E.2:Nat)] 146))/\Below W0.heap.size W0 wx)
 case first=>
  go_region_with (first
   | (go_at_call 177;refine(lS _).mono ?_;rintro e x1 ⟨rfl,hb1⟩;have hb1':Below W0.heap.size W0 x1:=(by first|exact ag ((a0b _ W0).drew) hb1|exact ag (((a0b _ W0).drew).alloc (by simp) _) hb1);obtain⟨r0,r1⟩:=ae hC x1 hb1';obtain⟨r2,r3⟩:=ae hC (x1.alloc (.cells #[.int .i64 0,.int .i64 0] 146)) (hb1'.alloc hb1'.size _);try(have k1:x1.heap[W0.heap.size]?=some (Obj.cells #[.int .i64 0,.int .i64 0] 146):=td hb1);clear hb1)
   | (go_at_call 178;refine(ae HL _).mono ?_;rintro e x2 ⟨rfl,hb2⟩;have hb2':Below W0.heap.size W0 x2:=(by first|exact ag hb1' hb2|exact ag (hb1'.alloc hb1'.size _) hb2);first|(have k2:=qI hb2;obtain⟨m0,m1,_⟩:=cn k2;obtain⟨n0,n1⟩:=lp k2)|(have k2:=(hb2.block _ (dj k1)).trans k1;obtain⟨m0,m1,_⟩:=cn k2;obtain⟨n0,n1⟩:=lp k2)|skip))
  all_goals
   go_wp2_with fail
   go_meet
   case rel=>first|exact⟨rfl,⟨_,rfl,alloc_at _ _⟩,hb2'.alloc hb2'.size _⟩|exact⟨rfl,⟨_,rfl,oj k2 _ _⟩,ah (ah hb2' hb1'.size _) hb1'.size _⟩|exact⟨rfl,⟨_,rfl,oj k2 _ _⟩,ah (ah hb2' (a0a _) _) (a0a _) _⟩
 case rest=>
  obtain⟨rfl,⟨b1,rfl,hk1⟩,hB1⟩:=hcut;have hC1:Hid (∀W,Below wc.heap.size wc W->W.cell? ⟨w.heap.size,0,none⟩=some (.int .i64 (y:Nat))/\W.cell? ⟨w.heap.size,1,none⟩=some (.int .i64 (z:Nat))):=fun W h=>ae hC W (ag hB1 h);clear q0 q1 p0 p1;obtain⟨q0,q1⟩:=ae hC1 wc (a0b _ _);have hl1:w.heap.size<wc.heap.size:=a0g hl0 hB1.size;obtain⟨p0,p1⟩:=ae hC1 (wc.drew.alloc (.cells #[.int .i64 0,.int .i64 0] 146)) (((a0b _ wc).drew).alloc (by simp) _);have HB1:=af hB1;have HK1:=af hk1;clear hB1 hk1;go_wp2_with fail;go_cut[5,6] (fun a p wx=>a = .int .i64 (f':Nat)/\(∃b,p = .pointer (some ⟨b,0,none⟩)/\wx.heap[b]?=some (Obj.cells #[.int .i64 ((z:Int)-(E'.1:Int)),.int .i64 (E'.2:Nat)] 146))/\Below wc.heap.size wc wx)
  case first=>
   go_region_with (first
    | (go_at_call 179;refine(lN _).mono ?_;rintro e x1 ⟨rfl,hb1⟩;have hb1':Below wc.heap.size wc x1:=(by first|exact ag ((a0b _ wc).drew) hb1|exact ag (((a0b _ wc).drew).alloc (by simp) _) hb1);obtain⟨r0,r1⟩:=ae hC1 x1 hb1';obtain⟨r2,r3⟩:=ae hC1 (x1.alloc (.cells #[.int .i64 0,.int .i64 0] 146)) (hb1'.alloc hb1'.size _);try(have k1:x1.heap[wc.heap.size]?=some (Obj.cells #[.int .i64 0,.int .i64 0] 146):=td hb1);clear hb1)
    | (go_at_call 178;refine(ae HK _).mono ?_;rintro e x2 ⟨rfl,hb2⟩;have hb2':Below wc.heap.size wc x2:=(by first|exact ag hb1' hb2|exact ag (hb1'.alloc hb1'.size _) hb2);first|(have k2:=qI hb2;obtain⟨m0,m1,_⟩:=cn k2;obtain⟨n0,n1⟩:=lp k2)|(have k2:=(hb2.block _ (dj k1)).trans k1;obtain⟨m0,m1,_⟩:=cn k2;obtain⟨n0,n1⟩:=lp k2)|skip))
   all_goals
    go_wp2_with fail
    go_meet
    case rel=>first|exact⟨rfl,⟨_,rfl,alloc_at _ _⟩,hb2'.alloc hb2'.size _⟩|exact⟨rfl,⟨_,rfl,oj k2 _ _⟩,ah (ah hb2' hb1'.size _) hb1'.size _⟩|exact⟨rfl,⟨_,rfl,oj k2 _ _⟩,ah (ah hb2' (a0a _) _) (a0a _) _⟩
  case rest=>
   obtain⟨rfl,⟨b2,rfl,hk2⟩,hB2⟩:=hcut;have k1:=(hB2.block _ (dj (ae HK1))).trans (ae HK1);have hBA:=ag (ae HB1) hB2;have ky:=(hBA.block _ (dj (ae HBY))).trans (ae HBY);have HBA:=af (ag (ae HB0) hBA);have HF:=af (lA (lA (lA (lA (lA (lA ky 0 (.int .i64 (257+(f:Int)))) 1 (.int .i64 ((y:Int)-(E.1:Int)))) 2 (.int .i64 (E.2:Nat))) 3 (.int .i64 (f':Nat))) 4 (.int .i64 ((z:Int)-(E'.1:Int)))) 5 (.int .i64 (E'.2:Nat)));have u0:=bo k1 0;have u1:=bo k1 1;have v0:=bo hk2 0;have v1:=bo hk2 1;have y0:=bo ky 0;have y1:=bo ky 1;have y2:=bo ky 2;have y3:=bo ky 3;have y4:=bo ky 4;have y5:=bo ky 5;have z0:=iZ ky 0;have z1:=iZ ky 1;have z2:=iZ ky 2;have z3:=iZ ky 3;have z4:=iZ ky 4;have z5:=iZ ky 5;simp at u0 u1 v0 v1 y0 y1 y2 y3 y4 y5;clear k1 hk2 hBA ky hB2 q0 q1 p0 p1 HK1 HBY;go_wp2;have g:=fun i=>bo (ae HF) i;have g0:=g 0;have g1:=g 1;have g2:=g 2;have g3:=g 3;have g4:=g 4;have g5:=g 5;simp at g0 g1 g2 g3 g4 g5;refine a0w (v:=.agg #[.int .i64 (257+(f:Int)),.int .i64 ((y:Int)-(E.1:Int)),.int .i64 (E.2:Nat),.int .i64 (f':Nat),.int .i64 ((z:Int)-(E'.1:Int)),.int .i64 (E'.2:Nat)]) (by simp[results,Tryz.results149,go_sem,g0,g1,g2,g3,g4,g5]) rfl ⟨rfl,?_⟩;have hge:w.heap.size<=w.heap.size+1:=by omega
   exact ah (ah (ah (ah (ah (ah (ae HBA) hge _) hge _) hge _) hge _) hge _) hge _
structure Grp where
 cnt:Int
 fst:Int
 syms:List Int
 val:Value
def aX:List Grp->List Value
 | []=>[]
 | g :: l=>.int .i64 g.cnt :: .int .i64 g.fst :: g.val :: aX l
theorem rM(l:List Grp):(aX l).length=l.length*3:=by
 induction l with
 | nil=>rfl
 | cons p l ih=>simp only[aX,a0y,ih];omega
theorem lV(l m:List Grp):aX (l++m)=aX l++aX m:=by
 induction l with
 | nil=>rfl
 | cons p l ih=>simp[aX,ih]
theorem xZ(l:List Grp)(k:Nat):aX (l.take k)=(aX l).take (k*3):=by
 induction l generalizing k with
 | nil=>simp[aX]
 | cons p l ih=>
  cases k with
  | zero=>simp[aX]
  | succ k=>rw[show(k+1)*3=k*3+1+1+1 by omega];simp[aX,ih]
theorem xY(l:List Grp)(k:Nat):aX (l.drop k)=(aX l).drop (k*3):=by
 induction l generalizing k with
 | nil=>simp[aX]
 | cons p l ih=>
  cases k with
  | zero=>simp
  | succ k=>rw[show(k+1)*3=k*3+1+1+1 by omega];simp[aX,ih]
def g0:Grp:=⟨0,0,[],.slice none 0 0⟩
theorem Ag(l:List Grp)(i:Nat)(h:i<l.length):(aX l)[i*3]?=some (.int .i64 (l.getD i g0).cnt)/\(aX l)[i*3+1]?=some (.int .i64 (l.getD i g0).fst)/\(aX l)[i*3+2]?=some (l.getD i g0).val:=by
 induction l generalizing i with
 | nil=>simp at h
 | cons p l ih=>
  cases i with
  | zero=>simp[aX]
  | succ i=>
   have:=ih i (by simpa using h);rw[show(i+1)*3=i*3+1+1+1 by omega];simpa[aX]using this
def dm(t:TypeId)(w:World)(base:Nat)(v:Value)(l:List Grp):Prop:=w.ownsRow base t 3 v l.length (aX l)
def dz(w:World)(ob:Nat)(l:List Grp):Prop:=∀g∈l,ap w ob g.val g.syms
theorem dm.form{t:TypeId}{w:World}{base:Nat}{v:Value}{l:List Grp}(h:dm t w base v l):∃a cap,v = .slice a l.length cap:=by
 rcases h.2 with⟨e,h0⟩|⟨g,cap,_,e,_⟩
 · exact⟨none,0,by rw[e,h0]⟩
 · exact⟨_,cap,e⟩
theorem dm.formN{t:TypeId}{w:World}{base n:Nat}{v:Value}{l:List Grp}(hn:l.length=n)(h:dm t w base v l):∃a cap,v = .slice a n cap:=by
 subst hn;exact h.form
theorem dm.somes{t:TypeId}{w:World}{base cap n:Nat}{a:Option Addr}{l:List Grp}(h:dm t w base (.slice a n cap) l)(hl:0<l.length):∃g,a=some ⟨g,0,none⟩:=by
 rcases h.2 with⟨_,e⟩|⟨g,cap',cur,e,_⟩
 · omega
 · simp only[a0J]at e;exact⟨g,e.1⟩
theorem dm.cap{t:TypeId}{w:World}{base cap n:Nat}{a:Option Addr}{l:List Grp}(hn:l.length=n)(h:dm t w base (.slice a n cap) l):n<=cap/\cap<=maxLen:=by
 rcases h.2 with⟨e,_⟩|⟨g,cap',cur,e,_,_,h1,h2,_⟩
 · simp only[a0J]at e;unfold maxLen;omega
 · simp only[a0J]at e;omega
theorem dm.at{t:TypeId}{w:World}{base g cap n:Nat}{l:List Grp}(hn:l.length=n)(h:dm t w base (.slice (some ⟨g,0,none⟩) n cap) l)(j:Nat)(hj:j<n) :
  w.cell? ⟨g,j*3,none⟩=some (.int .i64 (l.getD j g0).cnt)/\w.cell? ⟨g,j*3+1,none⟩=some (.int .i64 (l.getD j g0).fst)/\w.cell? ⟨g,j*3+2,none⟩=some (l.getD j g0).val/\base<=g/\g<w.heap.size:=by
 subst hn;have hp:=Ag l j hj;exact⟨(a06 h (j*3) (by omega)).trans hp.1,(a06 h (j*3+1) (by omega)).trans hp.2.1,(a06 h (j*3+2) (by omega)).trans hp.2.2,a0C h g rfl⟩
theorem sw{w w':World}{base B size n:Nat}{e:TypeId}{v:Value}{xs:List Value}(h:w.ownsRow base e size v n xs)(hb:Below B w w')(hB:w.heap.size<=B):w'.ownsRow base e size v n xs:=by
 refine⟨h.1,?_⟩;rcases h.2 with hn|⟨g,cap,cur,rfl,hbg,hgg,rest⟩
 · exact .inl hn
 · refine .inr ⟨g,cap,cur,rfl,hbg,?_,rest⟩;have hg:=(Array.getElem?_eq_some_iff.1 hgg).1;rw[hb.block g (by omega)];exact hgg
theorem dm.later{t:TypeId}{w w':World}{base B:Nat}{v:Value}{l:List Grp}(h:dm t w base v l)(hb:Below B w w')(hB:w.heap.size<=B):dm t w' base v l:=sw h hb hB
theorem dz.later{w w':World}{ob B:Nat}{l:List Grp}(h:dz w ob l)(hb:Below B w w')(hB:w.heap.size<=B):dz w' ob l:=fun g hg=>(h g hg).later hb hB
theorem dm.news{t:TypeId}{w:World}{base g cap n:Nat}{l:List Grp}(hn:l.length=n)(h:dm t w base (.slice (some ⟨g,0,none⟩) n cap) l)(i k o:Nat)(ho:o=i*3)(hik:i+k<=n) :
  ∀j u,(aX ((l.drop i).take k))[j]?=some u->w.cell? ((⟨g,o,none⟩:Addr).add j)=some u:=by
 intro j u hj;subst ho hn;have hadd:(⟨g,i*3,none⟩:Addr).add j=⟨g,i*3+j,none⟩:=by unfold Addr.add;split<;>simp_all
 have hjl:=(List.getElem?_eq_some_iff.1 hj).1;rw[rM,a0x,a1V]at hjl;have hmin:min k (l.length-i)=k:=by omega
 rw[hmin]at hjl;rw[hadd,a06 h (i*3+j) (by omega),←hj,xZ,xY,List.getElem?_take,a0d hjl,List.getElem?_drop]
end Go.Proofs.YtfhdadkcophoaaaGreatDoor
namespace Go.Proofs.YtfhdadkcophoaaaGreatDoor
open Go.RowKit Corb
theorem vB(w:World)(vl vc vs:Value)(m:Nat->Nat)(t:TypeId):eo (w.alloc (.cells (aO vl vc vs m).toArray t)) w.heap.size vl vc vs m:=by
 refine eo.of_range ?_ (fun o=>gZ w _ _ o) (by simp);intro j v hv;rw[a0G,cell_of_row _ _ _ _ t (0,0) (heap_alloc_new w _)];simpa using hv
end Go.Proofs.YtfhdadkcophoaaaGreatDoor
namespace Go.Proofs.YtfhdadkcophoaaaGreatDoor.Bkx
open Go.Proofs.YtfhdadkcophoaaaGreatDoor
open Go.RowKit Corb
set_option maxRecDepth 100000
set_option linter.unusedSimpArgs false
theorem vB(w:World)(vl vc vs:Value)(m:Nat->Nat)(t:TypeId):eo (w.alloc (.cells (aO vl vc vs m).toArray t)) w.heap.size vl vc vs m:=by
 refine eo.of_range ?_ (fun o=>gZ w _ _ o) (by simp);intro j v hv;rw[Nat.zero_add,cell_of_row _ _ _ _ t (0,0) (heap_alloc_new w _)];simpa using hv
theorem bookPut_any(B:BkI)(hB:Bks B)(a ac:Option Addr)(cap n cc k:Nat)(vs:Value)(m:Nat->Nat)(C:Array Value)(l c:List Int)(w:World)(hC:C=(aO (.slice a n cap) (.slice ac n cc) vs m).toArray)(hn:l.length=n)(hnc:c.length=n)(h:bH w a l)(hcr:bH w ac c)(hk:k<n)(hm:n<=300) :
  Calls Tryz.prog B.p #[.agg C,.int .i64 (k:Int)] w fun e w'=>e = .returned (.agg #[.int .i64 (btI (c.getD k 0) (l.getD k 0)),.int .i64 (l.getD k 0)])/\Below w.heap.size w w':=by
 have e0:C[0]?=some (.slice a n cap):=by subst hC;rfl
 have e1:C[1]?=some (.slice ac n cc):=by subst hC;rfl
 have hmI:(n:Int)<=300:=by omega
 have hkI:(k:Int)<(n:Int):=by omega
 clear hC;obtain⟨g,o,rfl,hg,hc⟩:=h (by omega);obtain⟨g',o',rfl,hg',hc'⟩:=hcr (by omega);have d0:=hc k (by omega);have d1:=hc' k (by omega);have hb:Below w.heap.size w ((w.alloc (.cells C B.T)).alloc (.cells #[.int .i64 0,.int .i64 0] 146)):=((Below.refl _ _).alloc (Nat.le_refl _) _).alloc (by simp) _;have r0:((w.alloc (.cells C B.T)).alloc (.cells #[.int .i64 0,.int .i64 0] 146)).cell? ⟨w.heap.size+1,0,none⟩=some (.int .i64 0):=by
  have:=cell_of_row ((w.alloc (.cells C B.T)).alloc (.cells #[.int .i64 0,.int .i64 0] 146)) (w.heap.size+1) 0 #[.int .i64 0,.int .i64 0] 146 (0,0) (heap_alloc2_new w _ _);rw[this];rfl
 have r1:((w.alloc (.cells C B.T)).alloc (.cells #[.int .i64 0,.int .i64 0] 146)).cell? ⟨w.heap.size+1,1,none⟩=some (.int .i64 0):=by
  have:=cell_of_row ((w.alloc (.cells C B.T)).alloc (.cells #[.int .i64 0,.int .i64 0] 146)) (w.heap.size+1) 1 #[.int .i64 0,.int .i64 0] 146 (0,0) (heap_alloc2_new w _ _);rw[this];rfl
 have hs2:((w.alloc (.cells C B.T)).alloc (.cells #[.int .i64 0,.int .i64 0] 146)).heap.size=w.heap.size+2:=by simp
 have HR:=af (And.intro r0 (And.intro r1 (And.intro hs2 hb)));clear hc hc' h hcr r0 r1 hs2 hb;generalize l.getD k 0=y at *
 generalize c.getD k 0=z at *
 rcases hB with rfl|rfl|rfl;all_goals
  simp only[bkL,bkD,bkN]at HR ⊢
  (first|go_enter Tryz.func148,Tryz.ntmps148|go_enter Tryz.func175,Tryz.ntmps175|go_enter Tryz.func159,Tryz.ntmps159)
  go_wp2_with fail;refine(nZ _ _ _).mono ?_;rintro e x1 ⟨rfl,hb1⟩;obtain⟨r0,r1,hs2,hb⟩:=ae HR;have q0:=(hb1.cell (p:=⟨w.heap.size+1,0,none⟩) (by rw[hs2];exact Nat.lt_succ_self _)).trans r0;have q1:=(hb1.cell (p:=⟨w.heap.size+1,1,none⟩) (by rw[hs2];exact Nat.lt_succ_self _)).trans r1;have f0:=hb1.frozen (p:=⟨w.heap.size+1,0,none⟩) (by rw[hs2];exact Nat.lt_succ_self _);have f1:=hb1.frozen (p:=⟨w.heap.size+1,1,none⟩) (by rw[hs2];exact Nat.lt_succ_self _);have hbn:=hb.trans (hb1.mono hb.size);clear HR r0 r1 hb hb1;go_wp2_with fail;exact bodyPost_ret (v:=.agg #[.int .i64 (btI z y),.int .i64 y]) (by simp[results,Tryz.results148,Tryz.results175,Tryz.results159,go_sem,q0,q1]) rfl ⟨rfl,ah (ah hbn (Nat.le_succ _) _) (Nat.le_succ _) _⟩
end Go.Proofs.YtfhdadkcophoaaaGreatDoor.Bkx
