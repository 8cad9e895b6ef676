/- Contracts of the program's spots: a token that leads back by its symbols, over this seat's program. -/
import Derived.Test.YtbacpebljannfaaGreatDoorM7
import Derived.Deep.DeepCutAuto
set_option linter.unusedSimpArgs false
set_option maxHeartbeats 3200000
namespace Go.Proofs.YtbacpebljannfaaGreatDoor
open Go.RowKit
theorem rx{x1 x2:World}{o:Obj}(h:Below (x1.alloc o).heap.size (x1.alloc o) x2):x2.heap[x1.heap.size]?=some o:=(h.block _ (by simp)).trans (alloc_at x1 o)
theorem tK{x1 x2:World}{o:Obj}(h:Below (x1.alloc o).drew.heap.size (x1.alloc o).drew x2):x2.heap[x1.heap.size]?=some o:=(h.block _ (by simp)).trans (alloc_at x1 o)
theorem mt{w:World}{b:Nat}{cs:Array Value}{t:TypeId}(h:w.heap[b]?=some (Obj.cells cs t))(i:Nat)(u:Value):(w.setCell ⟨b,i,none⟩ u).heap[b]?=some (Obj.cells (cs.setIfInBounds i u) t):=by
 show(w.heap.modify b _)[b]?=_;rw[Array.getElem?_modify,a0d rfl,h];simp
theorem bp{w:World}{b:Nat}{cs:Array Value}{t:TypeId}(h:w.heap[b]?=some (Obj.cells cs t))(i:Nat):w.cell? ⟨b,i,none⟩=cs[i]?:=by simp[World.cell?,h]
theorem jD{w:World}{b:Nat}{cs:Array Value}{t:TypeId}(h:w.heap[b]?=some (Obj.cells cs t))(i:Nat):w.frozen? ⟨b,i,none⟩=false:=by simp[World.frozen?,h]
set_option maxRecDepth 100000 in
theorem yh(y z:Nat)(w:World)(y0:3<=y)(y1:y<=60)(z0:1<=z)(z1:z<=250) :
  Calls Tryz.prog 139 #[.agg #[.int .i64 (y:Nat),.int .i64 (z:Nat)]] w fun e w'=>e = .returned (.agg #[.int .i64 (257+(fnd 3 4 y 27:Nat)),.int .i64 ((y:Int)-((stF 3 4 (fnd 3 4 y 27)).1:Int)),.int .i64 ((stF 3 4 (fnd 3 4 y 27)).2:Nat),.int .i64 (fnd 1 2 z 29:Nat),.int .i64 ((z:Int)-((stF 1 2 (fnd 1 2 z 29)).1:Int)),.int .i64 ((stF 1 2 (fnd 1 2 z 29)).2:Nat)])/\Below w.heap.size w w':=by
 have HL:=af (fun W=>uP y W y0 y1);have HK:=af (fun W=>uO z W z0 z1);have hf1:=ez 3 4 y 27;have hf2:=ez 1 2 z 29;generalize stF 3 4 (fnd 3 4 y 27)=E at *
 generalize stF 1 2 (fnd 1 2 z 29)=E' at *
 generalize fnd 3 4 y 27=f at *
 generalize fnd 1 2 z 29=f' at *
 have hf1I:(f:Int)<=27:=by omega
 have hf2I:(f':Int)<=29:=by omega
 clear y0 y1 z0 z1 hf1 hf2;go_enter Tryz.func139,Tryz.ntmps139;go_wp2_with fail;have hbx:((w.alloc (.cells #[.int .i64 (y:Nat),.int .i64 (z:Nat)] 189)).alloc (.cells #[.int .i64 0,.int .i64 0,.int .i64 0,.int .i64 0,.int .i64 0,.int .i64 0] 191)).heap[w.heap.size]?=some (Obj.cells #[.int .i64 (y:Nat),.int .i64 (z:Nat)] 189):=(a1h _ _ _ (by simp)).trans (alloc_at _ _);have hB0:Below w.heap.size w ((w.alloc (.cells #[.int .i64 (y:Nat),.int .i64 (z:Nat)] 189)).alloc (.cells #[.int .i64 0,.int .i64 0,.int .i64 0,.int .i64 0,.int .i64 0,.int .i64 0] 191)):=((a0c _ w).alloc (a0a _) _).alloc (by simp) _;have hby:((w.alloc (.cells #[.int .i64 (y:Nat),.int .i64 (z:Nat)] 189)).alloc (.cells #[.int .i64 0,.int .i64 0,.int .i64 0,.int .i64 0,.int .i64 0,.int .i64 0] 191)).heap[w.heap.size+1]?=some (Obj.cells #[.int .i64 0,.int .i64 0,.int .i64 0,.int .i64 0,.int .i64 0,.int .i64 0] 191):=by
  have e:(w.alloc (.cells #[.int .i64 (y:Nat),.int .i64 (z:Nat)] 189)).heap.size=w.heap.size+1:=by simp
  have:=alloc_at (w.alloc (.cells #[.int .i64 (y:Nat),.int .i64 (z:Nat)] 189)) (.cells #[.int .i64 0,.int .i64 0,.int .i64 0,.int .i64 0,.int .i64 0,.int .i64 0] 191);rw[e]at this;exact this
 generalize (w.alloc (.cells #[.int .i64 (y:Nat),.int .i64 (z:Nat)] 189)).alloc (.cells #[.int .i64 0,.int .i64 0,.int .i64 0,.int .i64 0,.int .i64 0,.int .i64 0] 191)=W0 at *
 have hC:Hid (∀W,Below W0.heap.size W0 W->W.cell? ⟨w.heap.size,0,none⟩=some (.int .i64 (y:Nat))/\W.cell? ⟨w.heap.size,1,none⟩=some (.int .i64 (z:Nat))):=fun W h=>by
  have hb:=(h.block _ (dr hbx)).trans hbx;exact⟨by simp[World.cell?,hb],by simp[World.cell?,hb]⟩
 obtain⟨q0,q1⟩:=ae hC W0 (a0c _ _);have hl0:w.heap.size<W0.heap.size:=dr hbx;obtain⟨p0,p1⟩:=ae hC (W0.drew.alloc (.cells #[.int .i64 0,.int .i64 0] 114)) (((a0c _ W0).drew).alloc (by simp) _);have HBY:=af hby;have HB0:=af hB0;clear hbx hby hB0;go_cut[3,4] (fun a p wx=>a = .int .i64 (f:Nat)/\(∃b,p = .pointer (some ⟨b,0,none⟩)/\wx.heap[b]?=some (Obj.cells #[.int .i64 ((y:Int)-(E.1:Int)),.int .i64 (E.2:Nat)] 114))/\Below W0.heap.size W0 wx)
 case first=>
  go_region_with (first
   | (go_at_call 177;refine(mK _).mono ?_;rintro e x1 ⟨rfl,hb1⟩;have hb1':Below W0.heap.size W0 x1:=(by first|exact am ((a0c _ W0).drew) hb1|exact am (((a0c _ W0).drew).alloc (by simp) _) hb1);obtain⟨r0,r1⟩:=ae hC x1 hb1';obtain⟨r2,r3⟩:=ae hC (x1.alloc (.cells #[.int .i64 0,.int .i64 0] 114)) (hb1'.alloc hb1'.size _);try(have k1:x1.heap[W0.heap.size]?=some (Obj.cells #[.int .i64 0,.int .i64 0] 114):=tK hb1);clear hb1)
   | (go_at_call 178;refine(ae HL _).mono ?_;rintro e x2 ⟨rfl,hb2⟩;have hb2':Below W0.heap.size W0 x2:=(by first|exact am hb1' hb2|exact am (hb1'.alloc hb1'.size _) hb2);first|(have k2:=rx hb2;obtain⟨m0,m1,_⟩:=di k2;obtain⟨n0,n1⟩:=mh k2)|(have k2:=(hb2.block _ (dr k1)).trans k1;obtain⟨m0,m1,_⟩:=di k2;obtain⟨n0,n1⟩:=mh k2)|skip))
  all_goals
   go_wp2_with fail
   go_meet
   case rel=>first|exact⟨rfl,⟨_,rfl,alloc_at _ _⟩,hb2'.alloc hb2'.size _⟩|exact⟨rfl,⟨_,rfl,pe k2 _ _⟩,ag (ag hb2' hb1'.size _) hb1'.size _⟩|exact⟨rfl,⟨_,rfl,pe k2 _ _⟩,ag (ag hb2' (a0a _) _) (a0a _) _⟩
 case rest=>
  obtain⟨rfl,⟨b1,rfl,hk1⟩,hB1⟩:=hcut;have hC1:Hid (∀W,Below wc.heap.size wc W->W.cell? ⟨w.heap.size,0,none⟩=some (.int .i64 (y:Nat))/\W.cell? ⟨w.heap.size,1,none⟩=some (.int .i64 (z:Nat))):=fun W h=>ae hC W (am hB1 h);clear q0 q1 p0 p1;obtain⟨q0,q1⟩:=ae hC1 wc (a0c _ _);have hl1:w.heap.size<wc.heap.size:=a0g hl0 hB1.size;obtain⟨p0,p1⟩:=ae hC1 (wc.drew.alloc (.cells #[.int .i64 0,.int .i64 0] 114)) (((a0c _ wc).drew).alloc (by simp) _);have HB1:=af hB1;have HK1:=af hk1;clear hB1 hk1;go_wp2_with fail;go_cut[5,6] (fun a p wx=>a = .int .i64 (f':Nat)/\(∃b,p = .pointer (some ⟨b,0,none⟩)/\wx.heap[b]?=some (Obj.cells #[.int .i64 ((z:Int)-(E'.1:Int)),.int .i64 (E'.2:Nat)] 114))/\Below wc.heap.size wc wx)
  case first=>
   go_region_with (first
    | (go_at_call 179;refine(mH _).mono ?_;rintro e x1 ⟨rfl,hb1⟩;have hb1':Below wc.heap.size wc x1:=(by first|exact am ((a0c _ wc).drew) hb1|exact am (((a0c _ wc).drew).alloc (by simp) _) hb1);obtain⟨r0,r1⟩:=ae hC1 x1 hb1';obtain⟨r2,r3⟩:=ae hC1 (x1.alloc (.cells #[.int .i64 0,.int .i64 0] 114)) (hb1'.alloc hb1'.size _);try(have k1:x1.heap[wc.heap.size]?=some (Obj.cells #[.int .i64 0,.int .i64 0] 114):=tK hb1);clear hb1)
    | (go_at_call 178;refine(ae HK _).mono ?_;rintro e x2 ⟨rfl,hb2⟩;have hb2':Below wc.heap.size wc x2:=(by first|exact am hb1' hb2|exact am (hb1'.alloc hb1'.size _) hb2);first|(have k2:=rx hb2;obtain⟨m0,m1,_⟩:=di k2;obtain⟨n0,n1⟩:=mh k2)|(have k2:=(hb2.block _ (dr k1)).trans k1;obtain⟨m0,m1,_⟩:=di k2;obtain⟨n0,n1⟩:=mh k2)|skip))
   all_goals
    go_wp2_with fail
    go_meet
    case rel=>first|exact⟨rfl,⟨_,rfl,alloc_at _ _⟩,hb2'.alloc hb2'.size _⟩|exact⟨rfl,⟨_,rfl,pe k2 _ _⟩,ag (ag hb2' hb1'.size _) hb1'.size _⟩|exact⟨rfl,⟨_,rfl,pe k2 _ _⟩,ag (ag hb2' (a0a _) _) (a0a _) _⟩
  case rest=>
   obtain⟨rfl,⟨b2,rfl,hk2⟩,hB2⟩:=hcut;have k1:=(hB2.block _ (dr (ae HK1))).trans (ae HK1);have hBA:=am (ae HB1) hB2;have ky:=(hBA.block _ (dr (ae HBY))).trans (ae HBY);have HBA:=af (am (ae HB0) hBA);have HF:=af (mt (mt (mt (mt (mt (mt ky 0 (.int .i64 (257+(f:Int)))) 1 (.int .i64 ((y:Int)-(E.1:Int)))) 2 (.int .i64 (E.2:Nat))) 3 (.int .i64 (f':Nat))) 4 (.int .i64 ((z:Int)-(E'.1:Int)))) 5 (.int .i64 (E'.2:Nat)));have u0:=bp k1 0;have u1:=bp k1 1;have v0:=bp hk2 0;have v1:=bp hk2 1;have y0:=bp ky 0;have y1:=bp ky 1;have y2:=bp ky 2;have y3:=bp ky 3;have y4:=bp ky 4;have y5:=bp ky 5;have z0:=jD ky 0;have z1:=jD ky 1;have z2:=jD ky 2;have z3:=jD ky 3;have z4:=jD ky 4;have z5:=jD ky 5;simp at u0 u1 v0 v1 y0 y1 y2 y3 y4 y5;clear k1 hk2 hBA ky hB2 q0 q1 p0 p1 HK1 HBY;go_wp2;have g:=fun i=>bp (ae HF) i;have g0:=g 0;have g1:=g 1;have g2:=g 2;have g3:=g 3;have g4:=g 4;have g5:=g 5;simp at g0 g1 g2 g3 g4 g5;refine a0u (v:=.agg #[.int .i64 (257+(f:Int)),.int .i64 ((y:Int)-(E.1:Int)),.int .i64 (E.2:Nat),.int .i64 (f':Nat),.int .i64 ((z:Int)-(E'.1:Int)),.int .i64 (E'.2:Nat)]) (by simp[results,Tryz.results139,go_sem,g0,g1,g2,g3,g4,g5]) rfl ⟨rfl,?_⟩;have hge:w.heap.size<=w.heap.size+1:=by omega
   exact ag (ag (ag (ag (ag (ag (ae HBA) hge _) hge _) hge _) hge _) hge _) hge _
end Go.Proofs.YtbacpebljannfaaGreatDoor
