/- Of what the proof is made: 4 texts, one behind the other. -/
import Derived.Test.YtchidddpplangaaGreatDoorM9
import Derived.Deep.DeepCutAuto
import Derived.Test.YtchidddpplangaaGreatDoorM7
import Derived.Deep.RegionWith
set_option maxRecDepth 100000
set_option linter.unusedSimpArgs false
set_option linter.unusedVariables false
set_option maxHeartbeats 3200000
namespace Go.Proofs.YtchidddpplangaaGreatDoor
open Go.RowKit
variable {L s:List UInt8}{a:Option Addr}{b g n p:Nat}{cs:Array Value}{t:TypeId}{v:Value}{w w':World}
theorem tL{x1 x2:World}{o:Obj}(h:Below (x1.alloc o).heap.size (x1.alloc o) x2):x2.heap[x1.heap.size]?=some o:=(h.block _ (by simp)).trans (alloc_at x1 o)
theorem wb{x1 x2:World}{o:Obj}(h:Below (x1.alloc o).drew.heap.size (x1.alloc o).drew x2):x2.heap[x1.heap.size]?=some o:=(h.block _ (by simp)).trans (alloc_at x1 o)
theorem nr(h:w.heap[b]?=some (Obj.cells cs t))(i:Nat)(u:Value):(w.setCell ⟨b,i,none⟩ u).heap[b]?=some (Obj.cells (cs.setIfInBounds i u) t):=by
 show(w.heap.modify b _)[b]?=_;rw[Array.getElem?_modify,a0e rfl,h];simp
theorem bu(h:w.heap[b]?=some (Obj.cells cs t))(i:Nat):w.cell? ⟨b,i,none⟩=cs[i]?:=by simp[World.cell?,h]
theorem kw(h:w.heap[b]?=some (Obj.cells cs t))(i:Nat):w.frozen? ⟨b,i,none⟩=false:=by simp[World.frozen?,h]
theorem Bo(y z:Nat)(w:World)(y0:3<=y)(y1:y<=60)(z0:1<=z)(z1:z<=250) :
  Ds 185 #[.agg #[.int .i64 (y:Nat),.int .i64 (z:Nat)]] w (.agg #[.int .i64 (257+(fnd 3 4 y 27:Nat)),.int .i64 ((y:Int)-((stF 3 4 (fnd 3 4 y 27)).1:Int)),.int .i64 ((stF 3 4 (fnd 3 4 y 27)).2:Nat),.int .i64 (fnd 1 2 z 29:Nat),.int .i64 ((z:Int)-((stF 1 2 (fnd 1 2 z 29)).1:Int)),.int .i64 ((stF 1 2 (fnd 1 2 z 29)).2:Nat)]):=by
 have T:=ae (fun W=>xF y W y0 y1);have S:=ae (fun W=>xE z W z0 z1);have K:=gX 3 4 y 27;generalize stF 3 4 (fnd 3 4 y 27)=E at *
 generalize stF 1 2 (fnd 1 2 z 29)=E' at *
 generalize fnd 3 4 y 27=f at *
 generalize fnd 1 2 z 29=f' at *
 have Q:(f:Int)<=27:=by omega
 clear y0 y1 z0 z1 K;go_enter Tryz.func185,Tryz.ntmps185;go_wp2_with fail;have r:((w.alloc (.cells #[.int .i64 (y:Nat),.int .i64 (z:Nat)] 259)).alloc (.cells #[.int .i64 0,.int .i64 0,.int .i64 0,.int .i64 0,.int .i64 0,.int .i64 0] 261)).heap[w.heap.size]?=some (Obj.cells #[.int .i64 (y:Nat),.int .i64 (z:Nat)] 259):=(a1i _ _ _ (by simp)).trans (alloc_at _ _);have C:Below w.heap.size w ((w.alloc (.cells #[.int .i64 (y:Nat),.int .i64 (z:Nat)] 259)).alloc (.cells #[.int .i64 0,.int .i64 0,.int .i64 0,.int .i64 0,.int .i64 0,.int .i64 0] 261)):=((a0c _ w).alloc (a0a _) _).alloc (by simp) _;have F:((w.alloc (.cells #[.int .i64 (y:Nat),.int .i64 (z:Nat)] 259)).alloc (.cells #[.int .i64 0,.int .i64 0,.int .i64 0,.int .i64 0,.int .i64 0,.int .i64 0] 261)).heap[w.heap.size+1]?=some (Obj.cells #[.int .i64 0,.int .i64 0,.int .i64 0,.int .i64 0,.int .i64 0,.int .i64 0] 261):=by
  have e:(w.alloc (.cells #[.int .i64 (y:Nat),.int .i64 (z:Nat)] 259)).heap.size=w.heap.size+1:=by simp
  have:=alloc_at (w.alloc (.cells #[.int .i64 (y:Nat),.int .i64 (z:Nat)] 259)) (.cells #[.int .i64 0,.int .i64 0,.int .i64 0,.int .i64 0,.int .i64 0,.int .i64 0] 261);rw[e]at this;exact this
 generalize (w.alloc (.cells #[.int .i64 (y:Nat),.int .i64 (z:Nat)] 259)).alloc (.cells #[.int .i64 0,.int .i64 0,.int .i64 0,.int .i64 0,.int .i64 0,.int .i64 0] 261)=W0 at *
 have D:Hid (∀W,Below W0.heap.size W0 W->W.cell? ⟨w.heap.size,0,none⟩=some (.int .i64 (y:Nat))/\W.cell? ⟨w.heap.size,1,none⟩=some (.int .i64 (z:Nat))):=fun W h=>by
  have hb:=(h.block _ (dn r)).trans r;exact⟨by simp[World.cell?,hb],by simp[World.cell?,hb]⟩
 obtain⟨O,P⟩:=ab D W0 (a0c _ _);have L:w.heap.size<W0.heap.size:=dn r;obtain⟨M,N⟩:=ab D (W0.drew.alloc (.cells #[.int .i64 0,.int .i64 0] 185)) (((a0c _ W0).drew).alloc (by simp) _);have t:=ae F;have H:=ae C;clear r F C;go_cut[3,4] (fun a p wx=>a = .int .i64 (f:Nat)/\(∃b,p = .pointer (some ⟨b,0,none⟩)/\wx.heap[b]?=some (Obj.cells #[.int .i64 ((y:Int)-(E.1:Int)),.int .i64 (E.2:Nat)] 185))/\Below W0.heap.size W0 wx)
 case first=>
  go_region_with (first
   | (go_at_call 216;refine(nM _).mono ?_;rintro e x1 ⟨rfl,j⟩;have c:Below W0.heap.size W0 x1:=(by first|exact ai ((a0c _ W0).drew) j|exact ai (((a0c _ W0).drew).alloc (by simp) _) j);obtain⟨V,X⟩:=ab D x1 c;obtain⟨Y,Z⟩:=ab D (x1.alloc (.cells #[.int .i64 0,.int .i64 0] 185)) (c.alloc c.size _);try(have s:x1.heap[W0.heap.size]?=some (Obj.cells #[.int .i64 0,.int .i64 0] 185):=wb j);clear j)
   | (go_at_call 217;refine(ab T _).mono ?_;rintro e x2 ⟨rfl,k⟩;have d:Below W0.heap.size W0 x2:=(by first|exact ai c k|exact ai (c.alloc c.size _) k);first|(have l:=tL k;obtain⟨m0,m1,_⟩:=df l;obtain⟨n0,n1⟩:=nd l)|(have l:=(k.block _ (dn s)).trans s;obtain⟨m0,m1,_⟩:=df l;obtain⟨n0,n1⟩:=nd l)|skip))
  all_goals
   go_wp2_with fail
   go_meet
   case rel=>first|exact⟨rfl,⟨_,rfl,alloc_at _ _⟩,d.alloc d.size _⟩|exact⟨rfl,⟨_,rfl,qx l _ _⟩,ah (ah d c.size _) c.size _⟩|exact⟨rfl,⟨_,rfl,qx l _ _⟩,ah (ah d (a0a _) _) (a0a _) _⟩
 case rest=>
  obtain⟨rfl,⟨b1,rfl,G⟩,o⟩:=hcut;have q:Hid (∀W,Below wc.heap.size wc W->W.cell? ⟨w.heap.size,0,none⟩=some (.int .i64 (y:Nat))/\W.cell? ⟨w.heap.size,1,none⟩=some (.int .i64 (z:Nat))):=fun W h=>ab D W (ai o h);clear O P M N;obtain⟨O,P⟩:=ab q wc (a0c _ _);have U:w.heap.size<wc.heap.size:=a0m L o.size;obtain⟨M,N⟩:=ab q (wc.drew.alloc (.cells #[.int .i64 0,.int .i64 0] 185)) (((a0c _ wc).drew).alloc (by simp) _);have I:=ae o;have u:=ae G;clear o G;go_wp2_with fail;go_cut[5,6] (fun a p wx=>a = .int .i64 (f':Nat)/\(∃b,p = .pointer (some ⟨b,0,none⟩)/\wx.heap[b]?=some (Obj.cells #[.int .i64 ((z:Int)-(E'.1:Int)),.int .i64 (E'.2:Nat)] 185))/\Below wc.heap.size wc wx)
  case first=>
   go_region_with (first
    | (go_at_call 218;refine(nF _).mono ?_;rintro e x1 ⟨rfl,j⟩;have c:Below wc.heap.size wc x1:=(by first|exact ai ((a0c _ wc).drew) j|exact ai (((a0c _ wc).drew).alloc (by simp) _) j);obtain⟨V,X⟩:=ab q x1 c;obtain⟨Y,Z⟩:=ab q (x1.alloc (.cells #[.int .i64 0,.int .i64 0] 185)) (c.alloc c.size _);try(have s:x1.heap[wc.heap.size]?=some (Obj.cells #[.int .i64 0,.int .i64 0] 185):=wb j);clear j)
    | (go_at_call 217;refine(ab S _).mono ?_;rintro e x2 ⟨rfl,k⟩;have d:Below wc.heap.size wc x2:=(by first|exact ai c k|exact ai (c.alloc c.size _) k);first|(have l:=tL k;obtain⟨m0,m1,_⟩:=df l;obtain⟨n0,n1⟩:=nd l)|(have l:=(k.block _ (dn s)).trans s;obtain⟨m0,m1,_⟩:=df l;obtain⟨n0,n1⟩:=nd l)|skip))
   all_goals
    go_wp2_with fail
    go_meet
    case rel=>first|exact⟨rfl,⟨_,rfl,alloc_at _ _⟩,d.alloc d.size _⟩|exact⟨rfl,⟨_,rfl,qx l _ _⟩,ah (ah d c.size _) c.size _⟩|exact⟨rfl,⟨_,rfl,qx l _ _⟩,ah (ah d (a0a _) _) (a0a _) _⟩
  case rest=>
   obtain⟨rfl,⟨b2,rfl,B⟩,x⟩:=hcut;have s:=(x.block _ (dn (ab u))).trans (ab u);have A:=ai (ab I) x;have m:=(A.block _ (dn (ab t))).trans (ab t);have J:=ae (ai (ab H) A);have R:=ae (nr (nr (nr (nr (nr (nr m 0 (.int .i64 (257+(f:Int)))) 1 (.int .i64 ((y:Int)-(E.1:Int)))) 2 (.int .i64 (E.2:Nat))) 3 (.int .i64 (f':Nat))) 4 (.int .i64 ((z:Int)-(E'.1:Int)))) 5 (.int .i64 (E'.2:Nat)));have u0:=bu s 0;have u1:=bu s 1;have v0:=bu B 0;have v1:=bu B 1;have y0:=bu m 0;have y1:=bu m 1;have y2:=bu m 2;have y3:=bu m 3;have y4:=bu m 4;have y5:=bu m 5;have z0:=kw m 0;have z1:=kw m 1;have z2:=kw m 2;have z3:=kw m 3;have z4:=kw m 4;have z5:=kw m 5;simp at u0 u1 v0 v1 y0 y1 y2 y3 y4 y5;clear s B A m x O P M N u t;go_wp2;have g:=fun i=>bu (ab R) i;have g0:=g 0;have g1:=g 1;have g2:=g 2;have g3:=g 3;have g4:=g 4;have g5:=g 5;simp at g0 g1 g2 g3 g4 g5;refine a0F (v:=.agg #[.int .i64 (257+(f:Int)),.int .i64 ((y:Int)-(E.1:Int)),.int .i64 (E.2:Nat),.int .i64 (f':Nat),.int .i64 ((z:Int)-(E'.1:Int)),.int .i64 (E'.2:Nat)]) (by simp[results,Tryz.results185,go_sem,g0,g1,g2,g3,g4,g5]) rfl ⟨rfl,?_⟩;have n:w.heap.size<=w.heap.size+1:=by omega
   exact ah (ah (ah (ah (ah (ah (ab J) n _) n _) n _) n _) n _) n _
abbrev Tk:=Int×Int×Int
def k0:Tk:=(0,0,0)
def Cj(w:World)(a:Option Addr)(l:List Tk):Prop:=
 0<l.length->∃g o,a=some ⟨g,o,none⟩/\g<w.heap.size/\∀i,i<l.length->w.cell? ⟨g,o+i*3,none⟩=some (.int .i64 (l.getD i k0).1)/\w.cell? ⟨g,o+i*3+1,none⟩=some (.int .i64 (l.getD i k0).2.1)/\w.cell? ⟨g,o+i*3+2,none⟩=some (.int .i64 (l.getD i k0).2.2)
theorem Cj.later{l:List Tk}(h:Cj w a l)(hb:Below w.heap.size w w'):Cj w' a l:=by
 intro f;obtain⟨g,o,e,b,c⟩:=h f;refine⟨g,o,e,a0m b hb.size,fun i d=>⟨?_,?_,?_⟩⟩
 . exact(hb.cell (p:=⟨g,o+i*3,none⟩) b).trans (c i d).1
 . exact(hb.cell (p:=⟨g,o+i*3+1,none⟩) b).trans (c i d).2.1
 . exact(hb.cell (p:=⟨g,o+i*3+2,none⟩) b).trans (c i d).2.2
def eb:List Tk->List Value
 | []=>[]
 | p :: l=>.int .i64 p.1 :: .int .i64 p.2.1 :: .int .i64 p.2.2 :: eb l
theorem vp(l m:List Tk):eb (l++m)=eb l++eb m:=by
 induction l with
 | nil=>rfl
 | cons p l ih=>simp[eb,ih]
theorem tJ(l:List Tk)(i:Nat)(h:i<l.length):(eb l)[i*3]?=some (.int .i64 (l.getD i k0).1)/\(eb l)[i*3+1]?=some (.int .i64 (l.getD i k0).2.1)/\(eb l)[i*3+2]?=some (.int .i64 (l.getD i k0).2.2):=by
 induction l generalizing i with
 | nil=>simp at h
 | cons p l ih=>
  cases i with
  | zero=>simp[eb]
  | succ i=>
   have:=ih i (by simpa using h);rw[show(i+1)*3=i*3+1+1+1 by omega];simpa[eb]using this
theorem Dn(l:List Tk)(j:Nat)(x:Tk):(((eb l).set (j*3) (.int .i64 x.1)).set (j*3+1) (.int .i64 x.2.1)).set (j*3+2) (.int .i64 x.2.2)=eb (l.set j x):=by
 induction l generalizing j with
 | nil=>simp[eb]
 | cons p l ih=>
  cases j with
  | zero=>simp[eb]
  | succ j=>
   rw[show(j+1)*3=j*3+1+1+1 by omega];simp only[eb,List.set_cons_succ];rw[ih j]
def dY(w:World)(base:Nat)(v:Value)(l:List Tk):Prop:=w.ownsRow base 229 3 v l.length (eb l)
theorem dY.form{base:Nat}{l:List Tk}(h:dY w base v l):∃a cap,v = .slice a l.length cap:=by
 rcases h.2 with⟨e,b⟩|⟨g,cap,_,e,_⟩
 . exact⟨none,0,by rw[e,b]⟩
 . exact⟨_,cap,e⟩
theorem dY.formN{base:Nat}{l:List Tk}(b:l.length=n)(h:dY w base v l):∃a cap,v = .slice a n cap:=by
 subst b;exact h.form
theorem dY.row{base:Nat}{cap:Nat}{l:List Tk}(h:dY w base (.slice a l.length cap) l):Cj w a l:=by
 intro k;rcases h.2 with⟨_,m⟩|⟨g,c,d,e,hb,f,n⟩
 . omega
 . simp only[a0J]at e;obtain⟨rfl,_,rfl⟩:=e;refine⟨g,0,rfl,(Array.getElem?_eq_some_iff.1 f).1,fun i j=>?_⟩;have b:=tJ l i j;have c1:=a09 h (i*3) (by omega);have c2:=a09 h (i*3+1) (by omega);have c3:=a09 h (i*3+2) (by omega);rw[a0G];exact⟨c1.trans b.1,c2.trans b.2.1,c3.trans b.2.2⟩
theorem dY.rowN{base:Nat}{cap:Nat}{l:List Tk}(b:l.length=n)(h:dY w base (.slice a n cap) l):Cj w a l:=by
 subst b;exact h.row
theorem dY.later{base B:Nat}{l:List Tk}(h:dY w base v l)(hb:Below B w w')(a:w.heap.size<=B):dY w' base v l:=
 a1N h (row:=none) ⟨hb.os,hb.tape,hb.output,hb.size,fun k b _=>hb.block k (by omega)⟩ (by
  cases c:v.ownBlock with
  | none=>exact .inl rfl
  | some k=>exact .inr (by simp))
theorem dY.mono{base base':Nat}{l:List Tk}(h:dY w base v l)(hb:base'<=base):dY w base' v l:=by
 refine⟨h.1,?_⟩;rcases h.2 with c|⟨g,cap,a,e,b,rest⟩
 . exact .inl c
 . exact .inr ⟨g,cap,a,e,a0E hb b,rest⟩
theorem dY.own{base:Nat}{l:List Tk}(a:l.length=n)(h:dY w base v l):w.ownsRow base 229 3 v n (eb l):=by
 subst a;exact h
theorem dY.somes{base cap:Nat}{l:List Tk}(h:dY w base (.slice a n cap) l)(d:0<l.length):∃g,a=some ⟨g,0,none⟩:=by
 rcases h.2 with⟨_,e⟩|⟨g,b,c,e,_⟩
 . omega
 . simp only[a0J]at e;exact⟨g,e.1⟩
theorem dY.below{base cap:Nat}{l:List Tk}(h:dY w base (.slice (some ⟨g,0,none⟩) n cap) l):base<=g/\g<w.heap.size:=a0y h g rfl
theorem dY.at{base cap:Nat}{l:List Tk}(c:l.length=n)(h:dY w base (.slice (some ⟨g,0,none⟩) n cap) l)(j:Nat)(b:j<n) :
  w.cell? ⟨g,j*3,none⟩=some (.int .i64 (l.getD j k0).1)/\w.cell? ⟨g,j*3+1,none⟩=some (.int .i64 (l.getD j k0).2.1)/\w.cell? ⟨g,j*3+2,none⟩=some (.int .i64 (l.getD j k0).2.2)/\w.frozen? ⟨g,j*3,none⟩=false/\w.frozen? ⟨g,j*3+1,none⟩=false/\w.frozen? ⟨g,j*3+2,none⟩=false:=by
 subst c;have a:=tJ l j b;exact⟨(a09 h (j*3) (by omega)).trans a.1,(a09 h (j*3+1) (by omega)).trans a.2.1,(a09 h (j*3+2) (by omega)).trans a.2.2,a2j h _,a2j h _,a2j h _⟩
theorem dY.put{base cap:Nat}{l:List Tk}(c:l.length=n)(h:dY w base (.slice (some ⟨g,0,none⟩) n cap) l)(j:Nat)(x:Tk) :
  dY (((w.setCell ⟨g,j*3,none⟩ (.int .i64 x.1)).setCell ⟨g,j*3+1,none⟩ (.int .i64 x.2.1)).setCell ⟨g,j*3+2,none⟩ (.int .i64 x.2.2)) base (.slice (some ⟨g,0,none⟩) n cap) (l.set j x):=by
 subst c;have b:=(a1M h (j*3) (.int .i64 x.1)).1;have h2:=(a1M b (j*3+1) (.int .i64 x.2.1)).1;have a:=(a1M h2 (j*3+2) (.int .i64 x.2.2)).1;rw[Dn]at a;show World.ownsRow _ _ _ _ _ (l.set j x).length _;rw[a1d];exact a
theorem dY.touch{base:Nat}{l:List Tk}(h:dY w base v l)(j:Touch a w w')(f:∀g,a=some ⟨g,0,none⟩->g<base):dY w' base v l:=by
 refine⟨h.1,?_⟩;rcases h.2 with i|⟨g,cap,b,rfl,c,d,rest⟩
 . exact .inl i
 . refine .inr ⟨g,cap,b,rfl,c,?_,rest⟩;rw[j.2 g (fun g' e=>by have:=f g' e;omega)];exact d
theorem Tryz.infoTok:(Tryz.prog.info? 229).map (fun i=>(i.zero,i.size,i.bytes))=some (some (.agg #[.int .i64 0,.int .i64 0,.int .i64 0]),3,24):=by kernel_rfl
theorem we{x:World}{base:Nat}{l:List Tk}{a b c:Int}(d:l.length=n)(h:x.ownsRow base 229 3 v (n+1) (eb l++[.int .i64 a,.int .i64 b,.int .i64 c])):dY x base v (l++[(a,b,c)]):=by
 subst d;show World.ownsRow _ _ _ _ _ (l++[(a,b,c)]).length _;rw[vp];simpa[eb]using h
theorem dY.nil(w:World)(base:Nat):dY w base (.slice none 0 0) []:=a00 _ _ _ _
theorem dY.lit(w:World)(base:Nat)(hb:base<=w.heap.size):dY (w.alloc (.cells #[] 229)) base (.slice (some ⟨w.heap.size,0,none⟩) 0 0) []:=a05 w #[] 0 hb (by unfold maxLen;omega) rfl
theorem JR(w:World)(x y z:Value)(t:TypeId)(g:Nat)(b:w.heap.size=g):∀(j:Nat) (u:Value),[x,y,z][j]?=some u->(w.alloc (.cells #[x,y,z] t)).cell? ((⟨g,0,none⟩:Addr).add j)=some u:=by
 subst b;intro j u a
 match j,a with
 | 0,a=>simp at a;subst a;simp[Addr.add]
 | 1,a=>simp at a;subst a;simp[Addr.add]
 | 2,a=>simp at a;subst a;simp[Addr.add]
theorem JS(x y z:Int):∀u∈[Value.int .i64 x,Value.int .i64 y,Value.int .i64 z],u.oneCell'=true:=by
 intro u a;simp at a;rcases a with rfl|rfl|rfl<;>rfl
theorem Eg(l:List Tk)(k:Nat)(h:k<l.length):l.take (k+1)=l.take k++[l.getD k k0]:=by
 rw[a1b h]
 congr 2
 simp[List.getD,h]
def rep(s:List UInt8)(back:Nat):Nat->List UInt8
 | 0=>s
 | n+1=>rep s back n++[(rep s back n).getD ((rep s back n).length-back) 0]
theorem lx(s:List UInt8)(back n:Nat):(rep s back n).length=s.length+n:=by
 induction n with
 | zero=>rfl
 | succ n ih=>simp only[rep,a0j,a1o,ih];omega
def dz(x:Int):UInt8:=UInt8.ofNat x.toNat
theorem ew{x:Int}(a:0<=x)(b:x<=255):((dz x).toNat:Int)=x:=by
 unfold dz;rw[UInt8.toNat_ofNat'];omega
def isB(t:Tk):Bool:=decide (t.2.1=0)&&(inB t.1 0 255&&decide (t.2.2=0))
def isK(t:Tk):Bool:=decide (t.1=0)&&inB t.2.1 3 60&&inB t.2.2 1 250
def gJ(s:List UInt8)(t:Tk):Option (List UInt8):=
 if isB t then some (s++[dz t.1])else if isK t&&decide (t.2.2<=(s.length:Int))then some (rep s t.2.2.toNat t.2.1.toNat)else none
def eT(s:List UInt8)(t:Tk):Option (List UInt8):=(gJ s t).bind fun x=>if x.length<=300 then some x else none
theorem oL{x:List UInt8}{t:Tk}(h:eT s t=some x):x.length<=300:=by
 unfold eT at h;cases a:gJ s t with
 | none=>rw[a]at h;cases h
 | some y=>
  rw[a]at h;simp only[a0f]at h
  split at h
  . simp only[a0l]at h;subst h;assumption
  . cases h
theorem EO{t:Tk}(h:isB t=true):isK t=false:=by
 simp only[isB,a0n,a0w]at h;have:inB t.2.1 3 60=false:=dN.2 (by omega);simp[isK,this]
def se(t:Tk):Nat:=if isB t then 1 else t.2.1.toNat
def okT(t:Tk):Bool:=isB t || isK t
theorem oM{t:Tk}(d:okT t=true)(hb:isK t=true->t.2.2<=(s.length:Int))(a:s.length+se t<=300):eT s t=some (if isB t then s++[dz t.1]else rep s t.2.2.toNat t.2.1.toNat):=by
 unfold eT gJ;unfold se at a;cases b:isB t
 .
  have c:isK t=true:=by simpa[okT,b]using d
  rw[b]at a;simp only[a01,a02]at a ⊢;rw[c,a0v (hb c)];simp only[a2T,a0X,a0f];rw[a0e (by rw[lx];exact a)]
 . rw[b]at a;simp only[a0X,a0f]at a ⊢;rw[a0e (by simp;omega)]
theorem IH{t:Tk}(b:okT t=false):eT s t=none:=by
 have a:isB t=false:=by cases h:isB t<;>simp[okT,h]at b ⊢
 have c:isK t=false:=by simpa[okT,a]using b
 unfold eT gJ;rw[a,c];rfl
theorem yI{t:Tk}(a:isK t=true)(hb:(s.length:Int)<t.2.2):eT s t=none:=by
 have b:isB t=false:=by
  cases h:isB t
  . rfl
  . rw[EO h]at a;cases a
 unfold eT gJ;rw[b,a,a0h (by omega)];rfl
theorem mR{t:Tk}(a:300<s.length+se t):eT s t=none:=by
 unfold eT gJ;unfold se at a;cases b:isB t
 .
  rw[b]at a;simp only[a01,a02]at a ⊢
  split
  . simp only[a0f];rw[a0d (by rw[lx];omega)]
  . rfl
 . rw[b]at a;simp only[a0X,a0f]at a ⊢;rw[a0d (by simp;omega)]
def agF(L:List UInt8)(p b:Nat):Nat->Nat->Nat
 | 0,n=>n
 | f+1,n=>if p+n<L.length/\L.getD (p+n) 0=L.getD (p+n-b) 0 then agF L p b f (n+1)else n
def agN(L:List UInt8)(p b:Nat):Nat:=agF L p b 60 0
theorem IJ{k:Nat}(c:k<60)(h:p+k<L.length)(a:L.getD (p+k) 0=L.getD (p+k-b) 0):agF L p b (60-k) k=agF L p b (60-(k+1)) (k+1):=by
 obtain⟨f,hf⟩:∃f,60-k=f+1:=⟨60-k-1,by omega⟩;rw[hf,show 60-(k+1)=f by omega];simp only[agF];rw[a0e ⟨h,a⟩]
theorem sM{k:Nat}(h:k=60∨¬ (p+k<L.length)∨L.getD (p+k) 0≠L.getD (p+k-b) 0)(c:k<=60):agF L p b (60-k) k=k:=by
 by_cases e:k=60
 . subst e;rfl
 .
  obtain⟨f,hf⟩:∃f,60-k=f+1:=⟨60-k-1,by omega⟩;rw[hf];simp only[agF];rw[a0d];rintro⟨a,h2⟩;rcases h with h|h|h
  . exact e h
  . exact h a
  . exact h h2
theorem II(L:List UInt8)(p b f n:Nat):n<=agF L p b f n/\agF L p b f n<=n+f/\(p+n<=L.length->p+agF L p b f n<=L.length)/\(∀i,n<=i->i<agF L p b f n->L.getD (p+i) 0=L.getD (p+i-b) 0):=by
 induction f generalizing n with
 | zero=>exact⟨a0a _,a0a _,fun h=>h,fun i a h2=>by simp only[agF]at h2;omega⟩
 | succ f ih=>
  simp only[agF]
  split
  .
   rename_i h;obtain⟨a,h2,c,d⟩:=ih (n+1);refine⟨by omega,by omega,fun _=>c (by omega),fun i j g=>?_⟩;by_cases e:i=n
   . subst e;exact h.2
   . exact d i (by omega) g
  . exact⟨a0a _,by omega,fun h=>h,fun i a h2=>by omega⟩
theorem NE(L:List UInt8)(p b:Nat):agN L p b<=60:=by have:=(II L p b 60 0).2.1;unfold agN;omega
theorem ND(h:p<=L.length):p+agN L p b<=L.length:=(II L p b 60 0).2.2.1 (by omega)
def br(L:List UInt8)(p:Nat):Nat->Nat×Nat
 | 0=>(0,0)
 | k+1=>if (br L p k).1<agN L p (k+1)then(agN L p (k+1),k+1)else br L p k
theorem lT(L:List UInt8)(p k:Nat):(br L p k).1<=60/\(br L p k).2<=k/\((br L p k).1≠0->1<=(br L p k).2/\(br L p k).1=agN L p (br L p k).2)/\(∀b,1<=b->b<=k->agN L p b<=(br L p k).1/\(agN L p b=(br L p k).1->(br L p k).1≠0->(br L p k).2<=b)):=by
 induction k with
 | zero=>exact⟨by simp[br],by simp[br],fun h=>by simp[br]at h,fun b d h2=>by omega⟩
 | succ k ih=>
  obtain⟨d,h2,g,f⟩:=ih;simp only[br]
  split
  .
   rename_i h;refine⟨NE L p (k+1),a0a _,fun _=>⟨by simp,rfl⟩,fun b a c=>?_⟩;by_cases e:b=k+1
   . subst e;exact⟨a0a _,fun _ _=>a0a _⟩
   . have:=(f b a (by omega)).1;simp only;exact⟨by omega,fun j=>by omega⟩
  .
   rename_i h;refine⟨d,by omega,g,fun b a c=>?_⟩;by_cases e:b=k+1
   . subst e;exact⟨by omega,fun _ i=>by omega⟩
   . exact f b a (by omega)
def gK(L:List UInt8)(p:Nat):Tk:=
 if (br L p (min p 250)).1<3 then(((L.getD p 0).toNat:Int),0,0)else(0,((br L p (min p 250)).1:Int),((br L p (min p 250)).2:Int))
def kb(L:List UInt8)(p:Nat):Nat:=if (br L p (min p 250)).1<3 then 1 else(br L p (min p 250)).1
theorem jy(L:List UInt8)(p:Nat):1<=kb L p/\kb L p<=60:=by
 unfold kb;have:=(lT L p (min p 250)).1
 split<;>omega
theorem Fp(h:p<L.length):p+kb L p<=L.length:=by
 unfold kb;obtain⟨c,h2,a,d⟩:=lT L p (min p 250)
 split
 . omega
 . rename_i hn;obtain⟨e,b⟩:=a (by omega);rw[b];exact ND (by omega)
def gP(L:List UInt8):Nat->Nat->List Tk
 | 0,_=>[]
 | f+1,p=>if p<L.length then gK L p :: gP L f (p+kb L p)else []
theorem El{f:Nat}(h:L.length-p<=f):gP L f p=gP L (L.length-p) p:=by
 induction f generalizing p with
 | zero=>rw[show L.length-p=0 by omega]
 | succ f ih=>
  by_cases e:p<L.length
  .
   obtain⟨g,hg⟩:∃g,L.length-p=g+1:=⟨L.length-p-1,by omega⟩;have l:=jy L p;rw[hg];simp only[gP];rw[a0e e,a0e e,ih (by omega)]
   congr 1
   -- both are the tokens from there on
   have:∀g',L.length-(p+kb L p)<=g'->g'<=f->gP L g' (p+kb L p)=gP L (L.length-(p+kb L p)) (p+kb L p):=by
    intro g' c h2;clear ih;have key:∀n q,L.length-q<=n->gP L n q=gP L (L.length-q) q:=by
     intro n;induction n with
     | zero=>intro q hq;rw[show L.length-q=0 by omega]
     | succ n ihn=>
      intro q hq;by_cases a:q<L.length
      .
       obtain⟨m,hm⟩:∃m,L.length-q=m+1:=⟨L.length-q-1,by omega⟩;have j:=jy L q;rw[hm];simp only[gP];rw[a0e a,a0e a,ihn _ (by omega)]
       congr 1
       by_cases d:m=n
       . subst d;rw[ihn _ (by omega)]
       .
        have i:m<n:=by omega
        clear hq;have:∀n m r,m<=n->L.length-r<=m->gP L n r=gP L m r:=by
         intro n;induction n with
         | zero=>intro m r c _;rw[show m=0 by omega]
         | succ n ih3=>
          intro m r c h2;by_cases b:r<L.length
          . obtain⟨m',rfl⟩:∃m',m=m'+1:=⟨m-1,by omega⟩;have k:=jy L r;simp only[gP];rw[a0e b,a0e b,ih3 m' _ (by omega) (by omega)]
          .
           cases m with
           | zero=>simp only[gP];rw[a0d b]
           | succ m=>simp only[gP];rw[a0d b,a0d b]
        exact(this m _ _ (by omega) (a0a _)).symm
      . rw[show L.length-q=0 by omega];simp only[gP];rw[a0d a]
    exact key g' _ c
   exact(this g (by omega) (by omega)).symm
  . rw[show L.length-p=0 by omega];simp only[gP];rw[a0d e]
def bJ(L:List UInt8)(p:Nat):List Tk:=gP L (L.length-p) p
theorem lC(h:p<L.length):bJ L p=gK L p :: bJ L (p+kb L p):=by
 unfold bJ;obtain⟨g,hg⟩:∃g,L.length-p=g+1:=⟨L.length-p-1,by omega⟩;have a:=jy L p;rw[hg];simp only[gP];rw[a0e h,El (by omega)]
theorem jl(h:¬ p<L.length):bJ L p=[]:=by
 unfold bJ;rw[show L.length-p=0 by omega];rfl
theorem wL(L:List UInt8):∀n p,L.length-p<=n->(bJ L p).length<=L.length-p:=by
 intro n;induction n with
 | zero=>intro p h;rw[jl (by omega)];simp
 | succ n ih=>
  intro p h;by_cases a:p<L.length
  . have b:=jy L p;rw[lC a];have:=ih (p+kb L p) (by omega);simp only[a0D];omega
  . rw[jl a];simp
end Go.Proofs.YtchidddpplangaaGreatDoor
