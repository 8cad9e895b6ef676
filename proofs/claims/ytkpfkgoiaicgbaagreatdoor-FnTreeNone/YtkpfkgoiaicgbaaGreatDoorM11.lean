/- Of what the proof is made: 4 texts, one behind the other. -/
import Derived.Test.YtkpfkgoiaicgbaaGreatDoorM9
import Derived.Deep.DeepCutAuto
import Derived.Test.YtkpfkgoiaicgbaaGreatDoorM7
import Derived.Deep.RegionWith
set_option linter.unusedSimpArgs false
set_option linter.unusedVariables false
set_option maxHeartbeats 3200000
namespace Go.Proofs.YtkpfkgoiaicgbaaGreatDoor
open Go.RowKit
theorem qW{x1 x2:World}{o:Obj}(h:Below (x1.alloc o).heap.size (x1.alloc o) x2):x2.heap[x1.heap.size]?=some o:=(h.block _ (by simp)).trans (alloc_at x1 o)
theorem tC{x1 x2:World}{o:Obj}(h:Below (x1.alloc o).drew.heap.size (x1.alloc o).drew x2):x2.heap[x1.heap.size]?=some o:=(h.block _ (by simp)).trans (alloc_at x1 o)
theorem lD{w:World}{b:Nat}{cs:Array Value}{t:TypeId}(h:w.heap[b]?=some (Obj.cells cs t))(i:Nat)(u:Value):(w.setCell ⟨b,i,none⟩ u).heap[b]?=some (Obj.cells (cs.setIfInBounds i u) t):=by
 show(w.heap.modify b _)[b]?=_;rw[Array.getElem?_modify,if_pos rfl,h];simp
theorem bn{w:World}{b:Nat}{cs:Array Value}{t:TypeId}(h:w.heap[b]?=some (Obj.cells cs t))(i:Nat):w.cell? ⟨b,i,none⟩=cs[i]?:=by simp[World.cell?,h]
theorem iU{w:World}{b:Nat}{cs:Array Value}{t:TypeId}(h:w.heap[b]?=some (Obj.cells cs t))(i:Nat):w.frozen? ⟨b,i,none⟩=false:=by simp[World.frozen?,h]
set_option maxRecDepth 100000 in
theorem yk(y z:Nat)(w:World)(y0:3<=y)(y1:y<=60)(z0:1<=z)(z1:z<=250) :
  Calls Tryz.prog 162 #[.agg #[.int .i64 (y:Nat),.int .i64 (z:Nat)]] w fun e w'=>e = .returned (.agg #[.int .i64 (257+(fnd 3 4 y 27:Nat)),.int .i64 ((y:Int)-((stF 3 4 (fnd 3 4 y 27)).1:Int)),.int .i64 ((stF 3 4 (fnd 3 4 y 27)).2:Nat),.int .i64 (fnd 1 2 z 29:Nat),.int .i64 ((z:Int)-((stF 1 2 (fnd 1 2 z 29)).1:Int)),.int .i64 ((stF 1 2 (fnd 1 2 z 29)).2:Nat)])/\Below w.heap.size w w':=by
 have HL:=af (fun W=>uL y W y0 y1);have HK:=af (fun W=>uK z W z0 z1);have hf1:=iL 3 4 y 27;generalize stF 3 4 (fnd 3 4 y 27)=E at *
 generalize stF 1 2 (fnd 1 2 z 29)=E' at *
 generalize fnd 3 4 y 27=f at *
 generalize fnd 1 2 z 29=f' at *
 have hf1I:(f:Int)<=27:=by omega
 clear y0 y1 z0 z1 hf1;go_enter Tryz.func162,Tryz.ntmps162;go_wp2_with fail;have hbx:((w.alloc (.cells #[.int .i64 (y:Nat),.int .i64 (z:Nat)] 254)).alloc (.cells #[.int .i64 0,.int .i64 0,.int .i64 0,.int .i64 0,.int .i64 0,.int .i64 0] 256)).heap[w.heap.size]?=some (Obj.cells #[.int .i64 (y:Nat),.int .i64 (z:Nat)] 254):=(Below.heap_alloc _ _ _ (by simp)).trans (alloc_at _ _);have hB0:Below w.heap.size w ((w.alloc (.cells #[.int .i64 (y:Nat),.int .i64 (z:Nat)] 254)).alloc (.cells #[.int .i64 0,.int .i64 0,.int .i64 0,.int .i64 0,.int .i64 0,.int .i64 0] 256)):=((Below.refl _ w).alloc (Nat.le_refl _) _).alloc (by simp) _;have hby:((w.alloc (.cells #[.int .i64 (y:Nat),.int .i64 (z:Nat)] 254)).alloc (.cells #[.int .i64 0,.int .i64 0,.int .i64 0,.int .i64 0,.int .i64 0,.int .i64 0] 256)).heap[w.heap.size+1]?=some (Obj.cells #[.int .i64 0,.int .i64 0,.int .i64 0,.int .i64 0,.int .i64 0,.int .i64 0] 256):=by
  have e:(w.alloc (.cells #[.int .i64 (y:Nat),.int .i64 (z:Nat)] 254)).heap.size=w.heap.size+1:=by simp
  have:=alloc_at (w.alloc (.cells #[.int .i64 (y:Nat),.int .i64 (z:Nat)] 254)) (.cells #[.int .i64 0,.int .i64 0,.int .i64 0,.int .i64 0,.int .i64 0,.int .i64 0] 256);rw[e]at this;exact this
 generalize (w.alloc (.cells #[.int .i64 (y:Nat),.int .i64 (z:Nat)] 254)).alloc (.cells #[.int .i64 0,.int .i64 0,.int .i64 0,.int .i64 0,.int .i64 0,.int .i64 0] 256)=W0 at *
 have hC:Hid (∀W,Below W0.heap.size W0 W->W.cell? ⟨w.heap.size,0,none⟩=some (.int .i64 (y:Nat))/\W.cell? ⟨w.heap.size,1,none⟩=some (.int .i64 (z:Nat))):=fun W h=>by
  have hb:=(h.block _ (dm hbx)).trans hbx;exact⟨by simp[World.cell?,hb],by simp[World.cell?,hb]⟩
 obtain⟨q0,q1⟩:=ae hC W0 (Below.refl _ _);have hl0:w.heap.size<W0.heap.size:=dm hbx;obtain⟨p0,p1⟩:=ae hC (W0.drew.alloc (.cells #[.int .i64 0,.int .i64 0] 180)) (((Below.refl _ W0).drew).alloc (by simp) _);have HBY:=af hby;have HB0:=af hB0;clear hbx hby hB0;go_cut[3,4] (fun a p wx=>a = .int .i64 (f:Nat)/\(∃b,p = .pointer (some ⟨b,0,none⟩)/\wx.heap[b]?=some (Obj.cells #[.int .i64 ((y:Int)-(E.1:Int)),.int .i64 (E.2:Nat)] 180))/\Below W0.heap.size W0 wx)
 case first=>
  go_region_with (first
   | (go_at_call 190;refine(lU _).mono ?_;rintro e x1 ⟨rfl,hb1⟩;have hb1':Below W0.heap.size W0 x1:=(by first|exact aj ((Below.refl _ W0).drew) hb1|exact aj (((Below.refl _ W0).drew).alloc (by simp) _) hb1);obtain⟨r0,r1⟩:=ae hC x1 hb1';obtain⟨r2,r3⟩:=ae hC (x1.alloc (.cells #[.int .i64 0,.int .i64 0] 180)) (hb1'.alloc hb1'.size _);try(have k1:x1.heap[W0.heap.size]?=some (Obj.cells #[.int .i64 0,.int .i64 0] 180):=tC hb1);clear hb1)
   | (go_at_call 191;refine(ae HL _).mono ?_;rintro e x2 ⟨rfl,hb2⟩;have hb2':Below W0.heap.size W0 x2:=(by first|exact aj hb1' hb2|exact aj (hb1'.alloc hb1'.size _) hb2);first|(have k2:=qW hb2;obtain⟨m0,m1,_⟩:=ci k2;obtain⟨n0,n1⟩:=lm k2)|(have k2:=(hb2.block _ (dm k1)).trans k1;obtain⟨m0,m1,_⟩:=ci k2;obtain⟨n0,n1⟩:=lm k2)|skip))
  all_goals
   go_wp2_with fail
   go_meet
   case rel=>first|exact⟨rfl,⟨_,rfl,alloc_at _ _⟩,hb2'.alloc hb2'.size _⟩|exact⟨rfl,⟨_,rfl,oy k2 _ _⟩,ai (ai hb2' hb1'.size _) hb1'.size _⟩|exact⟨rfl,⟨_,rfl,oy k2 _ _⟩,ai (ai hb2' (Nat.le_refl _) _) (Nat.le_refl _) _⟩
 case rest=>
  obtain⟨rfl,⟨b1,rfl,hk1⟩,hB1⟩:=hcut;have hC1:Hid (∀W,Below wc.heap.size wc W->W.cell? ⟨w.heap.size,0,none⟩=some (.int .i64 (y:Nat))/\W.cell? ⟨w.heap.size,1,none⟩=some (.int .i64 (z:Nat))):=fun W h=>ae hC W (aj hB1 h);clear q0 q1 p0 p1;obtain⟨q0,q1⟩:=ae hC1 wc (Below.refl _ _);have hl1:w.heap.size<wc.heap.size:=Nat.lt_of_lt_of_le hl0 hB1.size;obtain⟨p0,p1⟩:=ae hC1 (wc.drew.alloc (.cells #[.int .i64 0,.int .i64 0] 180)) (((Below.refl _ wc).drew).alloc (by simp) _);have HB1:=af hB1;have HK1:=af hk1;clear hB1 hk1;go_wp2_with fail;go_cut[5,6] (fun a p wx=>a = .int .i64 (f':Nat)/\(∃b,p = .pointer (some ⟨b,0,none⟩)/\wx.heap[b]?=some (Obj.cells #[.int .i64 ((z:Int)-(E'.1:Int)),.int .i64 (E'.2:Nat)] 180))/\Below wc.heap.size wc wx)
  case first=>
   go_region_with (first
    | (go_at_call 192;refine(lP _).mono ?_;rintro e x1 ⟨rfl,hb1⟩;have hb1':Below wc.heap.size wc x1:=(by first|exact aj ((Below.refl _ wc).drew) hb1|exact aj (((Below.refl _ wc).drew).alloc (by simp) _) hb1);obtain⟨r0,r1⟩:=ae hC1 x1 hb1';obtain⟨r2,r3⟩:=ae hC1 (x1.alloc (.cells #[.int .i64 0,.int .i64 0] 180)) (hb1'.alloc hb1'.size _);try(have k1:x1.heap[wc.heap.size]?=some (Obj.cells #[.int .i64 0,.int .i64 0] 180):=tC hb1);clear hb1)
    | (go_at_call 191;refine(ae HK _).mono ?_;rintro e x2 ⟨rfl,hb2⟩;have hb2':Below wc.heap.size wc x2:=(by first|exact aj hb1' hb2|exact aj (hb1'.alloc hb1'.size _) hb2);first|(have k2:=qW hb2;obtain⟨m0,m1,_⟩:=ci k2;obtain⟨n0,n1⟩:=lm k2)|(have k2:=(hb2.block _ (dm k1)).trans k1;obtain⟨m0,m1,_⟩:=ci k2;obtain⟨n0,n1⟩:=lm k2)|skip))
   all_goals
    go_wp2_with fail
    go_meet
    case rel=>first|exact⟨rfl,⟨_,rfl,alloc_at _ _⟩,hb2'.alloc hb2'.size _⟩|exact⟨rfl,⟨_,rfl,oy k2 _ _⟩,ai (ai hb2' hb1'.size _) hb1'.size _⟩|exact⟨rfl,⟨_,rfl,oy k2 _ _⟩,ai (ai hb2' (Nat.le_refl _) _) (Nat.le_refl _) _⟩
  case rest=>
   obtain⟨rfl,⟨b2,rfl,hk2⟩,hB2⟩:=hcut;have k1:=(hB2.block _ (dm (ae HK1))).trans (ae HK1);have hBA:=aj (ae HB1) hB2;have ky:=(hBA.block _ (dm (ae HBY))).trans (ae HBY);have HBA:=af (aj (ae HB0) hBA);have HF:=af (lD (lD (lD (lD (lD (lD ky 0 (.int .i64 (257+(f:Int)))) 1 (.int .i64 ((y:Int)-(E.1:Int)))) 2 (.int .i64 (E.2:Nat))) 3 (.int .i64 (f':Nat))) 4 (.int .i64 ((z:Int)-(E'.1:Int)))) 5 (.int .i64 (E'.2:Nat)));have u0:=bn k1 0;have u1:=bn k1 1;have v0:=bn hk2 0;have v1:=bn hk2 1;have y0:=bn ky 0;have y1:=bn ky 1;have y2:=bn ky 2;have y3:=bn ky 3;have y4:=bn ky 4;have y5:=bn ky 5;have z0:=iU ky 0;have z1:=iU ky 1;have z2:=iU ky 2;have z3:=iU ky 3;have z4:=iU ky 4;have z5:=iU ky 5;simp at u0 u1 v0 v1 y0 y1 y2 y3 y4 y5;clear k1 hk2 hBA ky hB2 q0 q1 p0 p1 HK1 HBY;go_wp2;have g:=fun i=>bn (ae HF) i;have g0:=g 0;have g1:=g 1;have g2:=g 2;have g3:=g 3;have g4:=g 4;have g5:=g 5;simp at g0 g1 g2 g3 g4 g5;refine bodyPost_ret (v:=.agg #[.int .i64 (257+(f:Int)),.int .i64 ((y:Int)-(E.1:Int)),.int .i64 (E.2:Nat),.int .i64 (f':Nat),.int .i64 ((z:Int)-(E'.1:Int)),.int .i64 (E'.2:Nat)]) (by simp[results,Tryz.results162,go_sem,g0,g1,g2,g3,g4,g5]) rfl ⟨rfl,?_⟩;have hge:w.heap.size<=w.heap.size+1:=by omega
   exact ai (ai (ai (ai (ai (ai (ae HBA) hge _) hge _) hge _) hge _) hge _) hge _
abbrev Tk:=Int×Int×Int
def k0:Tk:=(0,0,0)
def rep(s:List UInt8)(back:Nat):Nat->List UInt8
 | 0=>s
 | n+1=>rep s back n++[(rep s back n).getD ((rep s back n).length-back) 0]
theorem qe(s:List UInt8)(back n:Nat):(rep s back n).length=s.length+n:=by
 induction n with
 | zero=>rfl
 | succ n ih=>simp only[rep,List.length_append,List.length_singleton,ih];omega
def jZ(x:Int):UInt8:=UInt8.ofNat x.toNat
theorem sX{x:Int}(h0:0<=x)(h1:x<=255):((jZ x).toNat:Int)=x:=by
 unfold jZ;rw[UInt8.toNat_ofNat'];omega
def isB(t:Tk):Bool:=decide (t.2.1=0)&&(inB t.1 0 255&&decide (t.2.2=0))
def isK(t:Tk):Bool:=decide (t.1=0)&&inB t.2.1 3 60&&inB t.2.2 1 250
def y6(s:List UInt8)(t:Tk):Option (List UInt8):=
 if isB t then some (s++[jZ t.1])else if isK t&&decide (t.2.2<=(s.length:Int))then some (rep s t.2.2.toNat t.2.1.toNat)else none
def dE(s:List UInt8)(t:Tk):Option (List UInt8):=(y6 s t).bind fun x=>if x.length<=300 then some x else none
theorem mO{s x:List UInt8}{t:Tk}(h:dE s t=some x):x.length<=300:=by
 unfold dE at h;cases ha:y6 s t with
 | none=>rw[ha]at h;cases h
 | some y=>
  rw[ha]at h;simp only[Option.bind_some]at h
  split at h
  · simp only[Option.some.injEq]at h;subst h;assumption
  · cases h
theorem tz{t:Tk}(h:isB t=true):isK t=false:=by
 simp only[isB,Bool.and_eq_true,decide_eq_true_eq]at h;have:inB t.2.1 3 60=false:=eC.2 (by omega);simp[isK,this]
def nJ(t:Tk):Nat:=if isB t then 1 else t.2.1.toNat
def okT(t:Tk):Bool:=isB t || isK t
theorem iS{s:List UInt8}{t:Tk}(ho:okT t=true)(hb:isK t=true->t.2.2<=(s.length:Int))(hl:s.length+nJ t<=300):dE s t=some (if isB t then s++[jZ t.1]else rep s t.2.2.toNat t.2.1.toNat):=by
 unfold dE y6;unfold nJ at hl;cases hB:isB t
 ·
  have hK:isK t=true:=by simpa[okT,hB]using ho
  rw[hB]at hl;simp only[Bool.false_eq_true,if_false]at hl ⊢;rw[hK,decide_eq_true (hb hK)];simp only[Bool.and_true,if_true,Option.bind_some];rw[if_pos (by rw[qe];exact hl)]
 · rw[hB]at hl;simp only[if_true,Option.bind_some]at hl ⊢;rw[if_pos (by simp;omega)]
theorem Ff{s:List UInt8}{t:Tk}(ho:okT t=false):dE s t=none:=by
 have hB:isB t=false:=by cases h:isB t<;>simp[okT,h]at ho ⊢
 have hK:isK t=false:=by simpa[okT,hB]using ho
 unfold dE y6;rw[hB,hK];rfl
theorem vD{s:List UInt8}{t:Tk}(hK:isK t=true)(hb:(s.length:Int)<t.2.2):dE s t=none:=by
 have hB:isB t=false:=by
  cases h:isB t
  · rfl
  · rw[tz h]at hK;cases hK
 unfold dE y6;rw[hB,hK,decide_eq_false (by omega)];rfl
theorem kT{s:List UInt8}{t:Tk}(hl:300<s.length+nJ t):dE s t=none:=by
 unfold dE y6;unfold nJ at hl;cases hB:isB t
 ·
  rw[hB]at hl;simp only[Bool.false_eq_true,if_false]at hl ⊢
  split
  · simp only[Option.bind_some];rw[if_neg (by rw[qe];omega)]
  · rfl
 · rw[hB]at hl;simp only[if_true,Option.bind_some]at hl ⊢;rw[if_neg (by simp;omega)]
def agF(L:List UInt8)(p b:Nat):Nat->Nat->Nat
 | 0,n=>n
 | f+1,n=>if p+n<L.length/\L.getD (p+n) 0=L.getD (p+n-b) 0 then agF L p b f (n+1)else n
def agN(L:List UInt8)(p b:Nat):Nat:=agF L p b 60 0
theorem Fg{L:List UInt8}{p b k:Nat}(hk:k<60)(h:p+k<L.length)(he:L.getD (p+k) 0=L.getD (p+k-b) 0):agF L p b (60-k) k=agF L p b (60-(k+1)) (k+1):=by
 obtain⟨f,hf⟩:∃f,60-k=f+1:=⟨60-k-1,by omega⟩;rw[hf,show 60-(k+1)=f by omega];simp only[agF];rw[if_pos ⟨h,he⟩]
theorem qo{L:List UInt8}{p b k:Nat}(h:k=60∨¬ (p+k<L.length)∨L.getD (p+k) 0≠L.getD (p+k-b) 0)(hk:k<=60):agF L p b (60-k) k=k:=by
 by_cases e:k=60
 · subst e;rfl
 ·
  obtain⟨f,hf⟩:∃f,60-k=f+1:=⟨60-k-1,by omega⟩;rw[hf];simp only[agF];rw[if_neg];rintro⟨h1,h2⟩;rcases h with h|h|h
  · exact e h
  · exact h h1
  · exact h h2
theorem y7(L:List UInt8)(p b f n:Nat):n<=agF L p b f n/\agF L p b f n<=n+f/\(p+n<=L.length->p+agF L p b f n<=L.length)/\(∀i,n<=i->i<agF L p b f n->L.getD (p+i) 0=L.getD (p+i-b) 0):=by
 induction f generalizing n with
 | zero=>exact⟨Nat.le_refl _,Nat.le_refl _,fun h=>h,fun i h1 h2=>by simp only[agF]at h2;omega⟩
 | succ f ih=>
  simp only[agF]
  split
  ·
   rename_i h;obtain⟨h1,h2,h3,h4⟩:=ih (n+1);refine⟨by omega,by omega,fun _=>h3 (by omega),fun i h5 h6=>?_⟩;by_cases e:i=n
   · subst e;exact h.2
   · exact h4 i (by omega) h6
  · exact⟨Nat.le_refl _,by omega,fun h=>h,fun i h1 h2=>by omega⟩
theorem Ly(L:List UInt8)(p b:Nat):agN L p b<=60:=by have:=(y7 L p b 60 0).2.1;unfold agN;omega
theorem Lx{L:List UInt8}{p b:Nat}(h:p<=L.length):p+agN L p b<=L.length:=(y7 L p b 60 0).2.2.1 (by omega)
theorem Lw(L:List UInt8)(p b i:Nat)(h:i<agN L p b):L.getD (p+i) 0=L.getD (p+i-b) 0:=(y7 L p b 60 0).2.2.2 i (Nat.zero_le _) h
def bf(L:List UInt8)(p:Nat):Nat->Nat×Nat
 | 0=>(0,0)
 | k+1=>if (bf L p k).1<agN L p (k+1)then(agN L p (k+1),k+1)else bf L p k
theorem jV(L:List UInt8)(p k:Nat):(bf L p k).1<=60/\(bf L p k).2<=k/\((bf L p k).1≠0->1<=(bf L p k).2/\(bf L p k).1=agN L p (bf L p k).2)/\(∀b,1<=b->b<=k->agN L p b<=(bf L p k).1/\(agN L p b=(bf L p k).1->(bf L p k).1≠0->(bf L p k).2<=b)):=by
 induction k with
 | zero=>exact⟨by simp[bf],by simp[bf],fun h=>by simp[bf]at h,fun b h1 h2=>by omega⟩
 | succ k ih=>
  obtain⟨h1,h2,h3,h4⟩:=ih;simp only[bf]
  split
  ·
   rename_i h;refine⟨Ly L p (k+1),Nat.le_refl _,fun _=>⟨by simp,rfl⟩,fun b hb1 hb2=>?_⟩;by_cases e:b=k+1
   · subst e;exact⟨Nat.le_refl _,fun _ _=>Nat.le_refl _⟩
   · have:=(h4 b hb1 (by omega)).1;simp only;exact⟨by omega,fun he=>by omega⟩
  ·
   rename_i h;refine⟨h1,by omega,h3,fun b hb1 hb2=>?_⟩;by_cases e:b=k+1
   · subst e;exact⟨by omega,fun _ hne=>by omega⟩
   · exact h4 b hb1 (by omega)
def ft(L:List UInt8)(p:Nat):Tk:=
 if (bf L p (min p 250)).1<3 then(((L.getD p 0).toNat:Int),0,0)else(0,((bf L p (min p 250)).1:Int),((bf L p (min p 250)).2:Int))
def iq(L:List UInt8)(p:Nat):Nat:=if (bf L p (min p 250)).1<3 then 1 else(bf L p (min p 250)).1
theorem fo(L:List UInt8)(p:Nat):1<=iq L p/\iq L p<=60:=by
 unfold iq;have:=(jV L p (min p 250)).1
 split<;>omega
theorem qg{L:List UInt8}{p:Nat}(h:p<L.length):p+iq L p<=L.length:=by
 unfold iq;obtain⟨h1,h2,h3,h4⟩:=jV L p (min p 250)
 split
 · omega
 · rename_i hn;obtain⟨h5,h6⟩:=h3 (by omega);rw[h6];exact Lx (by omega)
def fw(L:List UInt8):Nat->Nat->List Tk
 | 0,_=>[]
 | f+1,p=>if p<L.length then ft L p :: fw L f (p+iq L p)else []
theorem AG{L:List UInt8}{f p:Nat}(h:L.length-p<=f):fw L f p=fw L (L.length-p) p:=by
 induction f generalizing p with
 | zero=>rw[show L.length-p=0 by omega]
 | succ f ih=>
  by_cases hp:p<L.length
  ·
   obtain⟨g,hg⟩:∃g,L.length-p=g+1:=⟨L.length-p-1,by omega⟩;have hs:=fo L p;rw[hg];simp only[fw];rw[if_pos hp,if_pos hp,ih (by omega)]
   congr 1
   -- both are the tokens from there on
   have:∀g',L.length-(p+iq L p)<=g'->g'<=f->fw L g' (p+iq L p)=fw L (L.length-(p+iq L p)) (p+iq L p):=by
    intro g' h1 h2;clear ih;have key:∀n q,L.length-q<=n->fw L n q=fw L (L.length-q) q:=by
     intro n;induction n with
     | zero=>intro q hq;rw[show L.length-q=0 by omega]
     | succ n ihn=>
      intro q hq;by_cases hq2:q<L.length
      ·
       obtain⟨m,hm⟩:∃m,L.length-q=m+1:=⟨L.length-q-1,by omega⟩;have hs2:=fo L q;rw[hm];simp only[fw];rw[if_pos hq2,if_pos hq2,ihn _ (by omega)]
       congr 1
       by_cases hmn:m=n
       · subst hmn;rw[ihn _ (by omega)]
       ·
        have hmn2:m<n:=by omega
        clear hq;have:∀n m r,m<=n->L.length-r<=m->fw L n r=fw L m r:=by
         intro n;induction n with
         | zero=>intro m r h1 _;rw[show m=0 by omega]
         | succ n ih3=>
          intro m r h1 h2;by_cases hr:r<L.length
          · obtain⟨m',rfl⟩:∃m',m=m'+1:=⟨m-1,by omega⟩;have hs3:=fo L r;simp only[fw];rw[if_pos hr,if_pos hr,ih3 m' _ (by omega) (by omega)]
          ·
           cases m with
           | zero=>simp only[fw];rw[if_neg hr]
           | succ m=>simp only[fw];rw[if_neg hr,if_neg hr]
        exact(this m _ _ (by omega) (Nat.le_refl _)).symm
      · rw[show L.length-q=0 by omega];simp only[fw];rw[if_neg hq2]
    exact key g' _ h1
   exact(this g (by omega) (by omega)).symm
  · rw[show L.length-p=0 by omega];simp only[fw];rw[if_neg hp]
def bh(L:List UInt8)(p:Nat):List Tk:=fw L (L.length-p) p
theorem ij{L:List UInt8}{p:Nat}(h:p<L.length):bh L p=ft L p :: bh L (p+iq L p):=by
 unfold bh;obtain⟨g,hg⟩:∃g,L.length-p=g+1:=⟨L.length-p-1,by omega⟩;have hs:=fo L p;rw[hg];simp only[fw];rw[if_pos h,AG (by omega)]
theorem dR{L:List UInt8}{p:Nat}(h:¬ p<L.length):bh L p=[]:=by
 unfold bh;rw[show L.length-p=0 by omega];rfl
theorem uh(L:List UInt8):∀n p,L.length-p<=n->(bh L p).length<=L.length-p:=by
 intro n;induction n with
 | zero=>intro p h;rw[dR (by omega)];simp
 | succ n ih=>
  intro p h;by_cases hp:p<L.length
  · have hs:=fo L p;rw[ij hp];have:=ih (p+iq L p) (by omega);simp only[List.length_cons];omega
  · rw[dR hp];simp
end Go.Proofs.YtkpfkgoiaicgbaaGreatDoor
