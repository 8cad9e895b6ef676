/- Texts. -/
import Derived.Test.YtemopnjckikkaaaGreatDoorM9
import Derived.Deep.DeepCutAuto
set_option linter.all false
set_option maxRecDepth 100000
set_option maxHeartbeats 3200000
namespace Go.Proofs.YtemopnjckikkaaaGreatDoor
open Go.RowKit
variable {L s:List UInt8}{a:Option Addr}{b n p:Nat}{cs:Array Value}{t:TypeId}{v:Value}{w:World}
def uv{x1 x2:World}{o:Obj}(h:Below (x1.alloc o).heap.size (x1.alloc o) x2):x2.heap[x1.heap.size]?=some o:=(h.block _ (by simp)).trans (alloc_at x1 o)
def wW{x1 x2:World}{o:Obj}(h:Below (x1.alloc o).drew.heap.size (x1.alloc o).drew x2):x2.heap[x1.heap.size]?=some o:=(h.block _ (by simp)).trans (alloc_at x1 o)
def nR(h:w.heap[b]?=some (Obj.cells cs t))(i:Nat)(u:Value):(w.setCell ⟨b,i,none⟩ u).heap[b]?=some (Obj.cells (cs.setIfInBounds i u) t):=by
 show(w.heap.modify b _)[b]?=_;rw[Array.getElem?_modify,a0c rfl,h];simp
def bw(h:w.heap[b]?=some (Obj.cells cs t))(i:Nat):w.cell? ⟨b,i,none⟩=cs[i]?:=by simp[World.cell?,h]
def kX(h:w.heap[b]?=some (Obj.cells cs t))(i:Nat):w.frozen? ⟨b,i,none⟩=false:=by simp[World.frozen?,h]
def Cn(y z:Nat)(w:World)(y0:3<=y)(y1:y<=60)(z0:1<=z)(z1:z<=250) :
  CD 139 #[.agg #[y,z]] w (.agg #[.int .i64 (257+(fnd 3 4 y 27:Nat)),.int .i64 ((y:Int)-((stF 3 4 (fnd 3 4 y 27)).1:Int)),.int .i64 ((stF 3 4 (fnd 3 4 y 27)).2:Nat),.int .i64 (fnd 1 2 z 29:Nat),.int .i64 ((z:Int)-((stF 1 2 (fnd 1 2 z 29)).1:Int)),.int .i64 ((stF 1 2 (fnd 1 2 z 29)).2:Nat)]):=by
 have T:=af (fun W=>yC y W y0 y1);have S:=af (fun W=>yB z W z0 z1);have K:=gP 3 4 y 27;generalize stF 3 4 (fnd 3 4 y 27)=E at *
 generalize stF 1 2 (fnd 1 2 z 29)=E' at *
 generalize fnd 3 4 y 27=f at *
 generalize fnd 1 2 z 29=f' at *
 have Q:(f:Int)<=27:=by omega
 clear y0 y1 z0 z1 K;go_enter Tryz.func139,Tryz.ntmps139;go_wp2_with fail;have r:((w.alloc (.cells #[y,z] 227)).alloc (.cells #[.int .i64 0,.int .i64 0,.int .i64 0,.int .i64 0,.int .i64 0,.int .i64 0] 229)).heap[w.heap.size]?=some (Obj.cells #[y,z] 227):=(Below.heap_alloc _ _ _ (by simp)).trans (alloc_at _ _);have C:Below w.heap.size w ((w.alloc (.cells #[y,z] 227)).alloc (.cells #[.int .i64 0,.int .i64 0,.int .i64 0,.int .i64 0,.int .i64 0,.int .i64 0] 229)):=((Below.refl _ w).alloc (a0a _) _).alloc (by simp) _;have F:((w.alloc (.cells #[y,z] 227)).alloc (.cells #[.int .i64 0,.int .i64 0,.int .i64 0,.int .i64 0,.int .i64 0,.int .i64 0] 229)).heap[w.heap.size+1]?=some (Obj.cells #[.int .i64 0,.int .i64 0,.int .i64 0,.int .i64 0,.int .i64 0,.int .i64 0] 229):=by
  have e:(w.alloc (.cells #[y,z] 227)).heap.size=w.heap.size+1:=by simp
  have:=alloc_at (w.alloc (.cells #[y,z] 227)) (.cells #[.int .i64 0,.int .i64 0,.int .i64 0,.int .i64 0,.int .i64 0,.int .i64 0] 229);rw[e]at this;exact this
 generalize (w.alloc (.cells #[y,z] 227)).alloc (.cells #[.int .i64 0,.int .i64 0,.int .i64 0,.int .i64 0,.int .i64 0,.int .i64 0] 229)=W0 at *
 have D:Hid (∀W,Below W0.heap.size W0 W->W.cell? ⟨w.heap.size,0,none⟩=some (.int .i64 (y:Nat))/\W.cell? ⟨w.heap.size,1,none⟩=some (.int .i64 (z:Nat))):=fun W h=>by
  have hb:=(h.block _ (dy r)).trans r;exact⟨by simp[World.cell?,hb],by simp[World.cell?,hb]⟩
 obtain⟨O,P⟩:=ae D W0 (Below.refl _ _);have L:w.heap.size<W0.heap.size:=dy r;obtain⟨M,N⟩:=ae D (W0.drew.alloc (.cells #[.int .i64 0,.int .i64 0] 137)) (((Below.refl _ W0).drew).alloc (by simp) _);have t:=af F;have H:=af C;clear r F C;go_cut[3,4] (fun a p wx=>a = .int .i64 (f:Nat)/\(∃b,p = .pointer (some ⟨b,0,none⟩)/\wx.heap[b]?=some (Obj.cells #[.int .i64 ((y:Int)-(E.1:Int)),.int .i64 (E.2:Nat)] 137))/\Below W0.heap.size W0 wx)
 case first=>
  go_region_with (first
   | (go_at_call 172;refine(oo _).mono ?_;rintro e x1⟨rfl,j⟩;have c:Below W0.heap.size W0 x1:=(by first|exact aj ((Below.refl _ W0).drew) j|exact aj (((Below.refl _ W0).drew).alloc (by simp) _) j);obtain⟨V,X⟩:=ae D x1 c;obtain⟨Y,Z⟩:=ae D (x1.alloc (.cells #[.int .i64 0,.int .i64 0] 137)) (c.alloc c.size _);try(have s:x1.heap[W0.heap.size]?=some (Obj.cells #[.int .i64 0,.int .i64 0] 137):=wW j);clear j)
   | (go_at_call 173;refine(T _).mono ?_;rintro e x2⟨rfl,k⟩;have d:Below W0.heap.size W0 x2:=(by first|exact aj c k|exact aj (c.alloc c.size _) k);first|(have l:=uv k;obtain⟨m0,m1,_⟩:=dI l;obtain⟨n0,n1⟩:=nH l)|(have l:=(k.block _ (dy s)).trans s;obtain⟨m0,m1,_⟩:=dI l;obtain⟨n0,n1⟩:=nH l)|skip))
  all_goals
   go_wp2_with fail
   go_meet
   case rel=>first|exact⟨rfl,⟨_,rfl,alloc_at _ _⟩,d.alloc d.size _⟩|exact⟨rfl,⟨_,rfl,qX l _ _⟩,ai (ai d c.size _) c.size _⟩|exact⟨rfl,⟨_,rfl,qX l _ _⟩,ai (ai d (a0a _) _) (a0a _) _⟩
 case rest=>
  obtain⟨rfl,⟨b1,rfl,G⟩,o⟩:=hcut;have q:Hid (∀W,Below wc.heap.size wc W->W.cell? ⟨w.heap.size,0,none⟩=some (.int .i64 (y:Nat))/\W.cell? ⟨w.heap.size,1,none⟩=some (.int .i64 (z:Nat))):=fun W h=>ae D W (aj o h);clear O P M N;obtain⟨O,P⟩:=ae q wc (Below.refl _ _);have U:w.heap.size<wc.heap.size:=a0h L o.size;obtain⟨M,N⟩:=ae q (wc.drew.alloc (.cells #[.int .i64 0,.int .i64 0] 137)) (((Below.refl _ wc).drew).alloc (by simp) _);have I:=af o;have u:=af G;clear o G;go_wp2_with fail;go_cut[5,6] (fun a p wx=>a = .int .i64 (f':Nat)/\(∃b,p = .pointer (some ⟨b,0,none⟩)/\wx.heap[b]?=some (Obj.cells #[.int .i64 ((z:Int)-(E'.1:Int)),.int .i64 (E'.2:Nat)] 137))/\Below wc.heap.size wc wx)
  case first=>
   go_region_with (first
    | (go_at_call 174;refine(oc _).mono ?_;rintro e x1⟨rfl,j⟩;have c:Below wc.heap.size wc x1:=(by first|exact aj ((Below.refl _ wc).drew) j|exact aj (((Below.refl _ wc).drew).alloc (by simp) _) j);obtain⟨V,X⟩:=ae q x1 c;obtain⟨Y,Z⟩:=ae q (x1.alloc (.cells #[.int .i64 0,.int .i64 0] 137)) (c.alloc c.size _);try(have s:x1.heap[wc.heap.size]?=some (Obj.cells #[.int .i64 0,.int .i64 0] 137):=wW j);clear j)
    | (go_at_call 173;refine(S _).mono ?_;rintro e x2⟨rfl,k⟩;have d:Below wc.heap.size wc x2:=(by first|exact aj c k|exact aj (c.alloc c.size _) k);first|(have l:=uv k;obtain⟨m0,m1,_⟩:=dI l;obtain⟨n0,n1⟩:=nH l)|(have l:=(k.block _ (dy s)).trans s;obtain⟨m0,m1,_⟩:=dI l;obtain⟨n0,n1⟩:=nH l)|skip))
   all_goals
    go_wp2_with fail
    go_meet
    case rel=>first|exact⟨rfl,⟨_,rfl,alloc_at _ _⟩,d.alloc d.size _⟩|exact⟨rfl,⟨_,rfl,qX l _ _⟩,ai (ai d c.size _) c.size _⟩|exact⟨rfl,⟨_,rfl,qX l _ _⟩,ai (ai d (a0a _) _) (a0a _) _⟩
  case rest=>
   obtain⟨rfl,⟨b2,rfl,B⟩,x⟩:=hcut;have s:=(x.block _ (dy u)).trans u;have A:=aj I x;have m:=(A.block _ (dy t)).trans t;have J:=af (aj H A);have R:=af (nR (nR (nR (nR (nR (nR m 0 (.int .i64 (257+(f:Int)))) 1 (.int .i64 ((y:Int)-(E.1:Int)))) 2 (.int .i64 (E.2:Nat))) 3 (.int .i64 (f':Nat))) 4 (.int .i64 ((z:Int)-(E'.1:Int)))) 5 (.int .i64 (E'.2:Nat)));have u0:=bw s 0;have u1:=bw s 1;have v0:=bw B 0;have v1:=bw B 1;have y0:=bw m 0;have y1:=bw m 1;have y2:=bw m 2;have y3:=bw m 3;have y4:=bw m 4;have y5:=bw m 5;have z0:=kX m 0;have z1:=kX m 1;have z2:=kX m 2;have z3:=kX m 3;have z4:=kX m 4;have z5:=kX m 5;simp at u0 u1 v0 v1 y0 y1 y2 y3 y4 y5;clear s B A m x O P M N u t;go_wp2;have g:=fun i=>bw R i;have g0:=g 0;have g1:=g 1;have g2:=g 2;have g3:=g 3;have g4:=g 4;have g5:=g 5;simp at g0 g1 g2 g3 g4 g5;refine a0C (v:=.agg #[.int .i64 (257+(f:Int)),.int .i64 ((y:Int)-(E.1:Int)),.int .i64 (E.2:Nat),f',.int .i64 ((z:Int)-(E'.1:Int)),.int .i64 (E'.2:Nat)]) (by simp[results,Tryz.results139,go_sem,g0,g1,g2,g3,g4,g5]) rfl ⟨rfl,?_⟩;have n:w.heap.size<=w.heap.size+1:=by omega
   exact ai (ai (ai (ai (ai (ai J n _) n _) n _) n _) n _) n _
abbrev Tk:=Int×Int×Int
def k0:Tk:=(0,0,0)
def DF(w:World)(a:Option Addr)(l:List Tk):Prop:=
 0<l.length->∃g o,a=some ⟨g,o,none⟩/\g<w.heap.size/\∀i,i<l.length->w.cell? ⟨g,o+i*3,none⟩=some (.int .i64 (l.getD i k0).1)/\w.cell? ⟨g,o+i*3+1,none⟩=some (.int .i64 (l.getD i k0).2.1)/\w.cell? ⟨g,o+i*3+2,none⟩=some (.int .i64 (l.getD i k0).2.2)
def DF.later{w':World}{l:List Tk}(h:DF w a l)(hb:Below w.heap.size w w'):DF w' a l:=by
 intro f;obtain⟨g,o,e,b,c⟩:=h f;refine⟨g,o,e,a0h b hb.size,fun i d=>⟨?_,?_,?_⟩⟩
 . exact(hb.cell (p:=⟨g,o+i*3,none⟩) b).trans (c i d).1
 . exact(hb.cell (p:=⟨g,o+i*3+1,none⟩) b).trans (c i d).2.1
 . exact(hb.cell (p:=⟨g,o+i*3+2,none⟩) b).trans (c i d).2.2
def gR:List Tk->List Value
 | []=>[]
 | p :: l=>.int .i64 p.1 :: .int .i64 p.2.1 :: .int .i64 p.2.2 :: gR l
def wh(l m:List Tk):gR (l++m)=gR l++gR m:=by
 induction l with
 | nil=>rfl
 | cons p l ih=>simp[gR,ih]
def ut(l:List Tk)(i:Nat)(h:i<l.length):(gR l)[i*3]?=some (.int .i64 (l.getD i k0).1)/\(gR l)[i*3+1]?=some (.int .i64 (l.getD i k0).2.1)/\(gR l)[i*3+2]?=some (.int .i64 (l.getD i k0).2.2):=by
 induction l generalizing i with
 | nil=>simp at h
 | cons p l ih=>
  cases i with
  | zero=>simp[gR]
  | succ i=>
   have:=ih i (by simpa using h);rw[show(i+1)*3=i*3+1+1+1 by omega];simpa[gR]using this
def ij(w:World)(base:Nat)(v:Value)(l:List Tk):Prop:=w.ownsRow base 296 3 v l.length (gR l)
def ij.form{base:Nat}{l:List Tk}(h:ij w base v l):∃a cap,v = .slice a l.length cap:=by
 rcases h.2 with⟨e,b⟩|⟨g,cap,_,e,_⟩
 . exact⟨none,0,by rw[e,b]⟩
 . exact⟨_,cap,e⟩
def ij.formN{base:Nat}{l:List Tk}(b:l.length=n)(h:ij w base v l):∃a cap,v = .slice a n cap:=by
 subst b;exact h.form
def ij.row{base:Nat}{cap:Nat}{l:List Tk}(h:ij w base (.slice a l.length cap) l):DF w a l:=by
 intro k;rcases h.2 with⟨_,m⟩|⟨g,c,d,e,hb,f,n⟩
 . omega
 . simp only[a0J]at e;obtain⟨rfl,_,rfl⟩:=e;refine⟨g,0,rfl,(Array.getElem?_eq_some_iff.1 f).1,fun i j=>?_⟩;have b:=ut l i j;have c1:=a07 h (i*3) (by omega);have c2:=a07 h (i*3+1) (by omega);have c3:=a07 h (i*3+2) (by omega);rw[a0F];exact⟨c1.trans b.1,c2.trans b.2.1,c3.trans b.2.2⟩
def ij.rowN{base:Nat}{cap:Nat}{l:List Tk}(b:l.length=n)(h:ij w base (.slice a n cap) l):DF w a l:=by
 subst b;exact h.row
def ij.later{w':World}{base B:Nat}{l:List Tk}(h:ij w base v l)(hb:Below B w w')(a:w.heap.size<=B):ij w' base v l:=
 a1C h (row:=none) ⟨hb.os,hb.tape,hb.output,hb.size,fun k b _=>hb.block k (by omega)⟩ (by
  cases c:v.ownBlock with
  | none=>exact .inl rfl
  | some k=>exact .inr (by simp))
def ij.mono{base base':Nat}{l:List Tk}(h:ij w base v l)(hb:base'<=base):ij w base' v l:=by
 refine⟨h.1,?_⟩;rcases h.2 with c|⟨g,cap,a,e,b,rest⟩
 . exact .inl c
 . exact .inr ⟨g,cap,a,e,a0E hb b,rest⟩
def ij.own{base:Nat}{l:List Tk}(a:l.length=n)(h:ij w base v l):w.ownsRow base 296 3 v n (gR l):=by
 subst a;exact h
def ij.at{base g cap:Nat}{l:List Tk}(c:l.length=n)(h:ij w base (.slice g n cap) l)(j:Nat)(b:j<n) :
  w.cell? ⟨g,j*3,none⟩=some (.int .i64 (l.getD j k0).1)/\w.cell? ⟨g,j*3+1,none⟩=some (.int .i64 (l.getD j k0).2.1)/\w.cell? ⟨g,j*3+2,none⟩=some (.int .i64 (l.getD j k0).2.2)/\w.frozen? ⟨g,j*3,none⟩=false/\w.frozen? ⟨g,j*3+1,none⟩=false/\w.frozen? ⟨g,j*3+2,none⟩=false:=by
 subst c;have a:=ut l j b;exact⟨(a07 h (j*3) (by omega)).trans a.1,(a07 h (j*3+1) (by omega)).trans a.2.1,(a07 h (j*3+2) (by omega)).trans a.2.2,a2d h _,a2d h _,a2d h _⟩
def Tryz.infoTok:(Tryz.prog.info? 296).map (fun i=>(i.zero,i.size,i.bytes))=some (some (.agg #[.int .i64 0,.int .i64 0,.int .i64 0]),3,24):=by kernel_rfl
def wX{x:World}{base:Nat}{l:List Tk}{a b c:Int}(d:l.length=n)(h:x.ownsRow base 296 3 v (n+1) (gR l++[.int .i64 a,.int .i64 b,.int .i64 c])):ij x base v (l++[(a,b,c)]):=by
 subst d;show World.ownsRow _ _ _ _ _ (l++[(a,b,c)]).length _;rw[wh];simpa[gR]using h
def ij.lit(w:World)(base:Nat)(hb:base<=w.heap.size):ij (w.alloc (.cells #[] 296)) base (.slice w.heap.size 0 0) []:=a0R w #[] 0 hb (by unfold maxLen;omega) rfl
def LA(w:World)(x y z:Value)(t:TypeId)(g:Nat)(b:w.heap.size=g):∀(j:Nat) (u:Value),[x,y,z][j]?=some u->(w.alloc (.cells #[x,y,z] t)).cell? ((⟨g,0,none⟩:Addr).add j)=some u:=by
 subst b;intro j u a
 match j,a with
 | 0,a=>simp at a;subst a;simp[Addr.add]
 | 1,a=>simp at a;subst a;simp[Addr.add]
 | 2,a=>simp at a;subst a;simp[Addr.add]
def LB(x y z:Int):∀u∈[Value.int .i64 x,Value.int .i64 y,Value.int .i64 z],u.oneCell'=true:=by
 intro u a;simp at a;rcases a with rfl|rfl|rfl<;>rfl
def Fw(l:List Tk)(k:Nat)(h:k<l.length):l.take (k+1)=l.take k++[l.getD k k0]:=by
 rw[a1b h]
 congr 2
 simp[List.getD,h]
def rep(s:List UInt8)(back:Nat):Nat->List UInt8
 | 0=>s
 | n+1=>rep s back n++[(rep s back n).getD ((rep s back n).length-back) 0]
def pW(s:List UInt8)(back n:Nat):(rep s back n).length=s.length+n:=by
 induction n with
 | zero=>rfl
 | succ n ih=>simp only[rep,a0i,a1d,ih];omega
def fH(x:Int):UInt8:=UInt8.ofNat x.toNat
def jA{x:Int}(a:0<=x)(b:x<=255):((fH x).toNat:Int)=x:=by
 unfold fH;rw[a2I];omega
def isB(t:Tk):Bool:=decide (t.2.1=0)&&(inB t.1 0 255&&decide (t.2.2=0))
def isK(t:Tk):Bool:=decide (t.1=0)&&inB t.2.1 3 60&&inB t.2.2 1 250
def kB(s:List UInt8)(t:Tk):Option (List UInt8):=
 if isB t then some (s++[fH t.1])else if isK t&&decide (t.2.2<=(s.length:Int))then some (rep s t.2.2.toNat t.2.1.toNat)else none
def fs(s:List UInt8)(t:Tk):Option (List UInt8):=(kB s t).bind fun x=>if x.length<=300 then some x else none
def pi{x:List UInt8}{t:Tk}(h:fs s t=some x):x.length<=300:=by
 unfold fs at h;cases a:kB s t with
 | none=>rw[a]at h;cases h
 | some y=>
  rw[a]at h;simp only[a0e]at h
  split at h
  . simp only[a0j]at h;subst h;assumption
  . cases h
def AR{t:Tk}(h:isB t=true):isK t=false:=by
 simp only[isB,a0k,a0s]at h;have:inB t.2.1 3 60=false:=eG.2 (by omega);simp[isK,this]
def wo(t:Tk):Nat:=if isB t then 1 else t.2.1.toNat
def okT(t:Tk):Bool:=isB t || isK t
def pj{t:Tk}(d:okT t=true)(hb:isK t=true->t.2.2<=(s.length:Int))(a:s.length+wo t<=300):fs s t=some (if isB t then s++[fH t.1]else rep s t.2.2.toNat t.2.1.toNat):=by
 unfold fs kB;unfold wo at a;cases b:isB t
 .
  have c:isK t=true:=by simpa[okT,b]using d
  rw[b]at a;simp only[a0Z,a00]at a ⊢;rw[c,a0x (hb c)];simp only[a2A,a0S,a0e];rw[a0c (by rw[pW];exact a)]
 . rw[b]at a;simp only[a0S,a0e]at a ⊢;rw[a0c (by simp;omega)]
def JW{t:Tk}(b:okT t=false):fs s t=none:=by
 have a:isB t=false:=by cases h:isB t<;>simp[okT,h]at b ⊢
 have c:isK t=false:=by simpa[okT,a]using b
 unfold fs kB;rw[a,c];rfl
def JX{t:Tk}(a:isK t=true)(hb:(s.length:Int)<t.2.2):fs s t=none:=by
 have b:isB t=false:=by
  cases h:isB t
  . rfl
  . rw[AR h]at a;cases a
 unfold fs kB;rw[b,a,a0l (by omega)];rfl
def wB{t:Tk}(a:300<s.length+wo t):fs s t=none:=by
 unfold fs kB;unfold wo at a;cases b:isB t
 .
  rw[b]at a;simp only[a0Z,a00]at a ⊢
  split
  . simp only[a0e];rw[a0d (by rw[pW];omega)]
  . rfl
 . rw[b]at a;simp only[a0S,a0e]at a ⊢;rw[a0d (by simp;omega)]
def agF(L:List UInt8)(p b:Nat):Nat->Nat->Nat
 | 0,n=>n
 | f+1,n=>if p+n<L.length/\L.getD (p+n) 0=L.getD (p+n-b) 0 then agF L p b f (n+1)else n
def agN(L:List UInt8)(p b:Nat):Nat:=agF L p b 60 0
def JY{k:Nat}(c:k<60)(h:p+k<L.length)(a:L.getD (p+k) 0=L.getD (p+k-b) 0):agF L p b (60-k) k=agF L p b (60-(k+1)) (k+1):=by
 obtain⟨f,hf⟩:∃f,60-k=f+1:=⟨60-k-1,by omega⟩;rw[hf,show 60-(k+1)=f by omega];simp only[agF];rw[a0c ⟨h,a⟩]
def tw{k:Nat}(h:k=60∨¬ (p+k<L.length)∨L.getD (p+k) 0≠L.getD (p+k-b) 0)(c:k<=60):agF L p b (60-k) k=k:=by
 by_cases e:k=60
 . subst e;rfl
 .
  obtain⟨f,hf⟩:∃f,60-k=f+1:=⟨60-k-1,by omega⟩;rw[hf];simp only[agF];rw[a0d];rintro⟨a,h2⟩;rcases h with h|h|h
  . exact e h
  . exact h a
  . exact h h2
def DI(L:List UInt8)(p b f n:Nat):n<=agF L p b f n/\agF L p b f n<=n+f/\(p+n<=L.length->p+agF L p b f n<=L.length)/\(∀i,n<=i->i<agF L p b f n->L.getD (p+i) 0=L.getD (p+i-b) 0):=by
 induction f generalizing n with
 | zero=>exact⟨a0a _,a0a _,fun h=>h,fun i a h2=>by simp only[agF]at h2;omega⟩
 | succ f ih=>
  simp only[agF]
  split
  .
   rename_i h;obtain⟨a,h2,c,d⟩:=ih (n+1);refine⟨by omega,by omega,fun _=>c (by omega),fun i j g=>?_⟩;by_cases e:i=n
   . subst e;exact h.2
   . exact d i (by omega) g
  . exact⟨a0a _,by omega,fun h=>h,fun i a h2=>by omega⟩
def Qa(L:List UInt8)(p b:Nat):agN L p b<=60:=by have:=(DI L p b 60 0).2.1;unfold agN;omega
def P9(h:p<=L.length):p+agN L p b<=L.length:=(DI L p b 60 0).2.2.1 (by omega)
def P8(L:List UInt8)(p b i:Nat)(h:i<agN L p b):L.getD (p+i) 0=L.getD (p+i-b) 0:=(DI L p b 60 0).2.2.2 i (a0f _) h
def bg(L:List UInt8)(p:Nat):Nat->Nat×Nat
 | 0=>(0,0)
 | k+1=>if (bg L p k).1<agN L p (k+1)then(agN L p (k+1),k+1)else bg L p k
def kW(L:List UInt8)(p k:Nat):(bg L p k).1<=60/\(bg L p k).2<=k/\((bg L p k).1≠0->1<=(bg L p k).2/\(bg L p k).1=agN L p (bg L p k).2)/\(∀b,1<=b->b<=k->agN L p b<=(bg L p k).1/\(agN L p b=(bg L p k).1->(bg L p k).1≠0->(bg L p k).2<=b)):=by
 induction k with
 | zero=>exact⟨by simp[bg],by simp[bg],fun h=>by simp[bg]at h,fun b d h2=>by omega⟩
 | succ k ih=>
  obtain⟨d,h2,g,f⟩:=ih;simp only[bg]
  split
  .
   rename_i h;refine⟨Qa L p (k+1),a0a _,fun _=>⟨by simp,rfl⟩,fun b a c=>?_⟩;by_cases e:b=k+1
   . subst e;exact⟨a0a _,fun _ _=>a0a _⟩
   . have:=(f b a (by omega)).1;simp only;exact⟨by omega,fun j=>by omega⟩
  .
   rename_i h;refine⟨d,by omega,g,fun b a c=>?_⟩;by_cases e:b=k+1
   . subst e;exact⟨by omega,fun _ i=>by omega⟩
   . exact f b a (by omega)
def fG(L:List UInt8)(p:Nat):Tk:=
 if (bg L p (min p 250)).1<3 then(((L.getD p 0).toNat:Int),0,0)else(0,((bg L p (min p 250)).1:Int),((bg L p (min p 250)).2:Int))
def iW(L:List UInt8)(p:Nat):Nat:=if (bg L p (min p 250)).1<3 then 1 else(bg L p (min p 250)).1
def gW(L:List UInt8)(p:Nat):1<=iW L p/\iW L p<=60:=by
 unfold iW;have:=(kW L p (min p 250)).1
 split<;>omega
def qd(h:p<L.length):p+iW L p<=L.length:=by
 unfold iW;obtain⟨c,h2,a,d⟩:=kW L p (min p 250)
 split
 . omega
 . rename_i hn;obtain⟨e,b⟩:=a (by omega);rw[b];exact P9 (by omega)
def ig(L:List UInt8):Nat->Nat->List Tk
 | 0,_=>[]
 | f+1,p=>if p<L.length then fG L p :: ig L f (p+iW L p)else []
def FB{f:Nat}(h:L.length-p<=f):ig L f p=ig L (L.length-p) p:=by
 induction f generalizing p with
 | zero=>rw[show L.length-p=0 by omega]
 | succ f ih=>
  by_cases e:p<L.length
  .
   obtain⟨g,hg⟩:∃g,L.length-p=g+1:=⟨L.length-p-1,by omega⟩;have l:=gW L p;rw[hg];simp only[ig];rw[a0c e,a0c e,ih (by omega)]
   congr 1
   -- both are the tokens from there on
   have:∀g',L.length-(p+iW L p)<=g'->g'<=f->ig L g' (p+iW L p)=ig L (L.length-(p+iW L p)) (p+iW L p):=by
    intro g' c h2;clear ih;have key:∀n q,L.length-q<=n->ig L n q=ig L (L.length-q) q:=by
     intro n;induction n with
     | zero=>intro q hq;rw[show L.length-q=0 by omega]
     | succ n ihn=>
      intro q hq;by_cases a:q<L.length
      .
       obtain⟨m,hm⟩:∃m,L.length-q=m+1:=⟨L.length-q-1,by omega⟩;have j:=gW L q;rw[hm];simp only[ig];rw[a0c a,a0c a,ihn _ (by omega)]
       congr 1
       by_cases d:m=n
       . subst d;rw[ihn _ (by omega)]
       .
        have i:m<n:=by omega
        clear hq;have:∀n m r,m<=n->L.length-r<=m->ig L n r=ig L m r:=by
         intro n;induction n with
         | zero=>intro m r c _;rw[show m=0 by omega]
         | succ n ih3=>
          intro m r c h2;by_cases b:r<L.length
          . obtain⟨m',rfl⟩:∃m',m=m'+1:=⟨m-1,by omega⟩;have k:=gW L r;simp only[ig];rw[a0c b,a0c b,ih3 m' _ (by omega) (by omega)]
          .
           cases m with
           | zero=>simp only[ig];rw[a0d b]
           | succ m=>simp only[ig];rw[a0d b,a0d b]
        exact(this m _ _ (by omega) (a0a _)).symm
      . rw[show L.length-q=0 by omega];simp only[ig];rw[a0d a]
    exact key g' _ c
   exact(this g (by omega) (by omega)).symm
  . rw[show L.length-p=0 by omega];simp only[ig];rw[a0d e]
def bj(L:List UInt8)(p:Nat):List Tk:=ig L (L.length-p) p
def iF(h:p<L.length):bj L p=fG L p :: bj L (p+iW L p):=by
 unfold bj;obtain⟨g,hg⟩:∃g,L.length-p=g+1:=⟨L.length-p-1,by omega⟩;have a:=gW L p;rw[hg];simp only[ig];rw[a0c h,FB (by omega)]
def eJ(h:¬ p<L.length):bj L p=[]:=by
 unfold bj;rw[show L.length-p=0 by omega];rfl
def xO(L:List UInt8):∀n p,L.length-p<=n->(bj L p).length<=L.length-p:=by
 intro n;induction n with
 | zero=>intro p h;rw[eJ (by omega)];simp
 | succ n ih=>
  intro p h;by_cases a:p<L.length
  . have b:=gW L p;rw[iF a];have:=ih (p+iW L p) (by omega);simp only[a0A];omega
  . rw[eJ a];simp
