/- Texts. -/
import Derived.Deep.DeepCutAuto
import Derived.Test.YtfannoajibacnaaGreatDoorM10
set_option linter.all false
set_option maxRecDepth 100000
set_option maxHeartbeats 3200000
namespace Go.Proofs.YtfannoajibacnaaGreatDoor
open Go.Proofs.Tryz
open Go.RowKit
variable {B b n:Nat}{cs:Array Value}{t:TypeId}{v:Value}{w w':World}
def ww{x1 x2:World}{o:Obj}(h:Below (x1.alloc o).heap.size (x1.alloc o) x2):x2.heap[x1.heap.size]?=some o:=(h.block _ (by simp)).trans (alloc_at x1 o)
def zm{x1 x2:World}{o:Obj}(h:Below (x1.alloc o).drew.heap.size (x1.alloc o).drew x2):x2.heap[x1.heap.size]?=some o:=(h.block _ (by simp)).trans (alloc_at x1 o)
def po(h:w.heap[b]?=some (Obj.cells cs t))(i:Nat)(u:Value):(w.setCell ⟨b,i,none⟩ u).heap[b]?=some (Obj.cells (cs.setIfInBounds i u) t):=by
 show(w.heap.modify b _)[b]?=_;rw[Array.getElem?_modify,a0d rfl,h];simp
def bH(h:w.heap[b]?=some (Obj.cells cs t))(i:Nat):w.cell? ⟨b,i,none⟩=cs[i]?:=by simp[World.cell?,h]
def l9(h:w.heap[b]?=some (Obj.cells cs t))(i:Nat):w.frozen? ⟨b,i,none⟩=false:=by simp[World.frozen?,h]
theorem Fj(y z:Nat)(w:World)(y0:3<=y)(y1:y<=60)(z0:1<=z)(z1:z<=250) :
  Ds 178 #[.agg #[y,z]] w (.agg #[.int .i64 (257+(fnd 3 4 y 27:Nat)),.int .i64 ((y:Int)-((stF 3 4 (fnd 3 4 y 27)).1:Int)),.int .i64 ((stF 3 4 (fnd 3 4 y 27)).2:Nat),.int .i64 (fnd 1 2 z 29:Nat),.int .i64 ((z:Int)-((stF 1 2 (fnd 1 2 z 29)).1:Int)),.int .i64 ((stF 1 2 (fnd 1 2 z 29)).2:Nat)]):=by
 have T:=af (fun W=>AV y W y0 y1);have S:=af (fun W=>AU z W z0 z1);have K:=iH 3 4 y 27;generalize stF 3 4 (fnd 3 4 y 27)=E at *
 generalize stF 1 2 (fnd 1 2 z 29)=E' at *
 generalize fnd 3 4 y 27=f at *
 generalize fnd 1 2 z 29=f' at *
 have Q:(f:Int)<=27:=by omega
 clear y0 y1 z0 z1 K;go_enter func178,ntmps178;go_wp2_with fail;have r:((w.alloc (.cells #[y,z] 248)).alloc (.cells #[.int .i64 0,.int .i64 0,.int .i64 0,.int .i64 0,.int .i64 0,.int .i64 0] 250)).heap[w.heap.size]?=some (Obj.cells #[y,z] 248):=(a1k _ _ _ (by simp)).trans (alloc_at _ _);have C:Below w.heap.size w ((w.alloc (.cells #[y,z] 248)).alloc (.cells #[.int .i64 0,.int .i64 0,.int .i64 0,.int .i64 0,.int .i64 0,.int .i64 0] 250)):=((a0c _ w).alloc (a0a _) _).alloc (by simp) _;have F:((w.alloc (.cells #[y,z] 248)).alloc (.cells #[.int .i64 0,.int .i64 0,.int .i64 0,.int .i64 0,.int .i64 0,.int .i64 0] 250)).heap[w.heap.size+1]?=some (Obj.cells #[.int .i64 0,.int .i64 0,.int .i64 0,.int .i64 0,.int .i64 0,.int .i64 0] 250):=by
  have e:(w.alloc (.cells #[y,z] 248)).heap.size=w.heap.size+1:=by simp
  have:=alloc_at (w.alloc (.cells #[y,z] 248)) (.cells #[.int .i64 0,.int .i64 0,.int .i64 0,.int .i64 0,.int .i64 0,.int .i64 0] 250);rw[e]at this;exact this
 generalize (w.alloc (.cells #[y,z] 248)).alloc (.cells #[.int .i64 0,.int .i64 0,.int .i64 0,.int .i64 0,.int .i64 0,.int .i64 0] 250)=W0 at *
 have D:Hid (∀W,Below W0.heap.size W0 W->W.cell? ⟨w.heap.size,0,none⟩=some (.int .i64 (y:Nat))/\W.cell? ⟨w.heap.size,1,none⟩=some (.int .i64 (z:Nat))):=fun W h=>by
  have hb:=(h.block _ (dS r)).trans r;exact⟨by simp[World.cell?,hb],by simp[World.cell?,hb]⟩
 obtain⟨O,P⟩:=ae D W0 (a0c _ _);have L:w.heap.size<W0.heap.size:=dS r;obtain⟨M,N⟩:=ae D (W0.drew.alloc (.cells #[.int .i64 0,.int .i64 0] 167)) (((a0c _ W0).drew).alloc (by simp) _);have t:=af F;have H:=af C;clear r F C;go_cut[3,4] (fun a p wx=>a = .int .i64 (f:Nat)/\(∃b,p = .pointer (some ⟨b,0,none⟩)/\wx.heap[b]?=some (Obj.cells #[.int .i64 ((y:Int)-(E.1:Int)),.int .i64 (E.2:Nat)] 167))/\Below W0.heap.size W0 wx)
 case first=>
  go_region_with (first
   | (go_at_call 214;refine(pK _).mono ?_;rintro e x1⟨rfl,j⟩;have c:Below W0.heap.size W0 x1:=(by first|exact aj ((a0c _ W0).drew) j|exact aj (((a0c _ W0).drew).alloc (by simp) _) j);obtain⟨V,X⟩:=ae D x1 c;obtain⟨Y,Z⟩:=ae D (x1.alloc (.cells #[.int .i64 0,.int .i64 0] 167)) (c.alloc c.size _);try(have s:x1.heap[W0.heap.size]?=some (Obj.cells #[.int .i64 0,.int .i64 0] 167):=zm j);clear j)
   | (go_at_call 215;refine(ae T _).mono ?_;rintro e x2⟨rfl,k⟩;have d:Below W0.heap.size W0 x2:=(by first|exact aj c k|exact aj (c.alloc c.size _) k);first|(have l:=ww k;obtain⟨m0,m1,_⟩:=ea l;obtain⟨n0,n1⟩:=oZ l)|(have l:=(k.block _ (dS s)).trans s;obtain⟨m0,m1,_⟩:=ea l;obtain⟨n0,n1⟩:=oZ l)|skip))
  all_goals
   go_wp2_with fail
   go_meet
   case rel=>first|exact⟨rfl,⟨_,rfl,alloc_at _ _⟩,d.alloc d.size _⟩|exact⟨rfl,⟨_,rfl,sY l _ _⟩,ai (ai d c.size _) c.size _⟩|exact⟨rfl,⟨_,rfl,sY l _ _⟩,ai (ai d (a0a _) _) (a0a _) _⟩
 case rest=>
  obtain⟨rfl,⟨b1,rfl,G⟩,o⟩:=hcut;have q:Hid (∀W,Below wc.heap.size wc W->W.cell? ⟨w.heap.size,0,none⟩=some (.int .i64 (y:Nat))/\W.cell? ⟨w.heap.size,1,none⟩=some (.int .i64 (z:Nat))):=fun W h=>ae D W (aj o h);clear O P M N;obtain⟨O,P⟩:=ae q wc (a0c _ _);have U:w.heap.size<wc.heap.size:=a0h L o.size;obtain⟨M,N⟩:=ae q (wc.drew.alloc (.cells #[.int .i64 0,.int .i64 0] 167)) (((a0c _ wc).drew).alloc (by simp) _);have I:=af o;have u:=af G;clear o G;go_wp2_with fail;go_cut[5,6] (fun a p wx=>a = .int .i64 (f':Nat)/\(∃b,p = .pointer (some ⟨b,0,none⟩)/\wx.heap[b]?=some (Obj.cells #[.int .i64 ((z:Int)-(E'.1:Int)),.int .i64 (E'.2:Nat)] 167))/\Below wc.heap.size wc wx)
  case first=>
   go_region_with (first
    | (go_at_call 216;refine(pD _).mono ?_;rintro e x1⟨rfl,j⟩;have c:Below wc.heap.size wc x1:=(by first|exact aj ((a0c _ wc).drew) j|exact aj (((a0c _ wc).drew).alloc (by simp) _) j);obtain⟨V,X⟩:=ae q x1 c;obtain⟨Y,Z⟩:=ae q (x1.alloc (.cells #[.int .i64 0,.int .i64 0] 167)) (c.alloc c.size _);try(have s:x1.heap[wc.heap.size]?=some (Obj.cells #[.int .i64 0,.int .i64 0] 167):=zm j);clear j)
    | (go_at_call 215;refine(ae S _).mono ?_;rintro e x2⟨rfl,k⟩;have d:Below wc.heap.size wc x2:=(by first|exact aj c k|exact aj (c.alloc c.size _) k);first|(have l:=ww k;obtain⟨m0,m1,_⟩:=ea l;obtain⟨n0,n1⟩:=oZ l)|(have l:=(k.block _ (dS s)).trans s;obtain⟨m0,m1,_⟩:=ea l;obtain⟨n0,n1⟩:=oZ l)|skip))
   all_goals
    go_wp2_with fail
    go_meet
    case rel=>first|exact⟨rfl,⟨_,rfl,alloc_at _ _⟩,d.alloc d.size _⟩|exact⟨rfl,⟨_,rfl,sY l _ _⟩,ai (ai d c.size _) c.size _⟩|exact⟨rfl,⟨_,rfl,sY l _ _⟩,ai (ai d (a0a _) _) (a0a _) _⟩
  case rest=>
   obtain⟨rfl,⟨b2,rfl,B⟩,x⟩:=hcut;have s:=(x.block _ (dS (ae u))).trans (ae u);have A:=aj (ae I) x;have m:=(A.block _ (dS (ae t))).trans (ae t);have J:=af (aj (ae H) A);have R:=af (po (po (po (po (po (po m 0 (.int .i64 (257+(f:Int)))) 1 (.int .i64 ((y:Int)-(E.1:Int)))) 2 (.int .i64 (E.2:Nat))) 3 (.int .i64 (f':Nat))) 4 (.int .i64 ((z:Int)-(E'.1:Int)))) 5 (.int .i64 (E'.2:Nat)));have u0:=bH s 0;have u1:=bH s 1;have v0:=bH B 0;have v1:=bH B 1;have y0:=bH m 0;have y1:=bH m 1;have y2:=bH m 2;have y3:=bH m 3;have y4:=bH m 4;have y5:=bH m 5;have z0:=l9 m 0;have z1:=l9 m 1;have z2:=l9 m 2;have z3:=l9 m 3;have z4:=l9 m 4;have z5:=l9 m 5;simp at u0 u1 v0 v1 y0 y1 y2 y3 y4 y5;clear s B A m x O P M N u t;go_wp2;have g:=fun i=>bH (ae R) i;have g0:=g 0;have g1:=g 1;have g2:=g 2;have g3:=g 3;have g4:=g 4;have g5:=g 5;simp at g0 g1 g2 g3 g4 g5;refine a0x (v:=.agg #[.int .i64 (257+(f:Int)),.int .i64 ((y:Int)-(E.1:Int)),.int .i64 (E.2:Nat),f',.int .i64 ((z:Int)-(E'.1:Int)),.int .i64 (E'.2:Nat)]) (by simp[results,results178,go_sem,g0,g1,g2,g3,g4,g5]) rfl ⟨rfl,?_⟩;have n:w.heap.size<=w.heap.size+1:=by omega
   exact ai (ai (ai (ai (ai (ai (ae J) n _) n _) n _) n _) n _) n _
structure Grp where
 cnt:Int
 fst:Int
 syms:List Int
 val:Value
def aS:List Grp->List Value
 | []=>[]
 | g :: l=>.int .i64 g.cnt :: .int .i64 g.fst :: g.val :: aS l
def nb(l:List Grp):(aS l).length=l.length*3:=by
 induction l with
 | nil=>rfl
 | cons p l ih=>simp only[aS,a0C,ih];omega
def lS(l m:List Grp):aS (l++m)=aS l++aS m:=by
 induction l with
 | nil=>rfl
 | cons p l ih=>simp[aS,ih]
def Fy(l:List Grp)(k:Nat):aS (l.take k)=(aS l).take (k*3):=by
 induction l generalizing k with
 | nil=>simp[aS]
 | cons p l ih=>
  cases k with
  | zero=>simp[aS]
  | succ k=>rw[show(k+1)*3=k*3+1+1+1 by omega];simp[aS,ih]
def Fx(l:List Grp)(k:Nat):aS (l.drop k)=(aS l).drop (k*3):=by
 induction l generalizing k with
 | nil=>simp[aS]
 | cons p l ih=>
  cases k with
  | zero=>simp
  | succ k=>rw[show(k+1)*3=k*3+1+1+1 by omega];simp[aS,ih]
def g0:Grp:=⟨0,0,[],.slice none 0 0⟩
def IH(l:List Grp)(i:Nat)(h:i<l.length):(aS l)[i*3]?=some (.int .i64 (l.getD i g0).cnt)/\(aS l)[i*3+1]?=some (.int .i64 (l.getD i g0).fst)/\(aS l)[i*3+2]?=some (l.getD i g0).val:=by
 induction l generalizing i with
 | nil=>simp at h
 | cons p l ih=>
  cases i with
  | zero=>simp[aS]
  | succ i=>
   have:=ih i (by simpa using h);rw[show(i+1)*3=i*3+1+1+1 by omega];simpa[aS]using this
def dr(t:TypeId)(w:World)(base:Nat)(v:Value)(l:List Grp):Prop:=w.ownsRow base t 3 v l.length (aS l)
def eH(w:World)(ob:Nat)(l:List Grp):Prop:=∀g∈l,an w ob g.val g.syms
def dr.form{base:Nat}{l:List Grp}(h:dr t w base v l):∃a cap,v = .slice a l.length cap:=by
 rcases h.2 with⟨e,b⟩|⟨g,cap,_,e,_⟩
 . exact⟨none,0,by rw[e,b]⟩
 . exact⟨_,cap,e⟩
def dr.formN{base:Nat}{l:List Grp}(b:l.length=n)(h:dr t w base v l):∃a cap,v = .slice a n cap:=by
 subst b;exact h.form
def dr.somes{base cap:Nat}{a:Option Addr}{l:List Grp}(h:dr t w base (.slice a n cap) l)(d:0<l.length):∃g,a=some ⟨g,0,none⟩:=by
 rcases h.2 with⟨_,e⟩|⟨g,b,c,e,_⟩
 . omega
 . simp only[a0L]at e;exact⟨g,e.1⟩
def dr.cap{base cap:Nat}{a:Option Addr}{l:List Grp}(f:l.length=n)(h:dr t w base (.slice a n cap) l):n<=cap/\cap<=maxLen:=by
 rcases h.2 with⟨e,_⟩|⟨g,b,c,e,_,_,d,h2,_⟩
 . simp only[a0L]at e;unfold maxLen;omega
 . simp only[a0L]at e;omega
def dr.at{base g cap:Nat}{l:List Grp}(c:l.length=n)(h:dr t w base (.slice g n cap) l)(j:Nat)(b:j<n) :
  w.cell? ⟨g,j*3,none⟩=some (.int .i64 (l.getD j g0).cnt)/\w.cell? ⟨g,j*3+1,none⟩=some (.int .i64 (l.getD j g0).fst)/\w.cell? ⟨g,j*3+2,none⟩=some (l.getD j g0).val/\base<=g/\g<w.heap.size:=by
 subst c;have a:=IH l j b;exact⟨(a1f h (j*3) (by omega)).trans a.1,(a1f h (j*3+1) (by omega)).trans a.2.1,(a1f h (j*3+2) (by omega)).trans a.2.2,a0z h g rfl⟩
def yI{base size:Nat}{e:TypeId}{xs:List Value}(h:w.ownsRow base e size v n xs)(hb:Below B w w')(f:w.heap.size<=B):w'.ownsRow base e size v n xs:=by
 refine⟨h.1,?_⟩;rcases h.2 with d|⟨g,cap,b,rfl,c,a,rest⟩
 . exact .inl d
 . refine .inr ⟨g,cap,b,rfl,c,?_,rest⟩;have i:=(Array.getElem?_eq_some_iff.1 a).1;rw[hb.block g (by omega)];exact a
def dr.later{base:Nat}{l:List Grp}(h:dr t w base v l)(hb:Below B w w')(a:w.heap.size<=B):dr t w' base v l:=yI h hb a
def eH.later{ob:Nat}{l:List Grp}(h:eH w ob l)(hb:Below B w w')(a:w.heap.size<=B):eH w' ob l:=fun g b=>(h g b).later hb a
def xY{ob:Nat}{l:List Grp}(h:eH w ob l):∀u∈aS l,u.oneCell'=true:=by
 induction l with
 | nil=>intro u b;simp[aS]at b
 | cons p l ih=>
  intro u b;simp only[aS,a02]at b;rcases b with rfl|rfl|rfl|b
  . rfl
  . rfl
  . obtain⟨a,c,e⟩:=(h p (by simp)).form;rw[e];rfl
  . exact ih (fun g d=>h g (by simp[d])) u b
def dr.news{base g cap:Nat}{l:List Grp}(f:l.length=n)(h:dr t w base (.slice g n cap) l)(i k o:Nat)(m:o=i*3)(e:i+k<=n) :
  ∀j u,(aS ((l.drop i).take k))[j]?=some u->w.cell? ((⟨g,o,none⟩:Addr).add j)=some u:=by
 intro j u d;subst m f;have b:(⟨g,i*3,none⟩:Addr).add j=⟨g,i*3+j,none⟩:=by unfold Addr.add;split<;>simp_all
 have a:=(List.getElem?_eq_some_iff.1 d).1;rw[nb,a0u,a04]at a;have c:min k (l.length-i)=k:=by omega
 rw[c]at a;rw[b,a1f h (i*3+j) (by omega),←d,Fy,Fx,List.getElem?_take,a0d a,List.getElem?_drop]
open Corb
def Nq(w:World)(vl vc vs:Value)(m:Nat->Nat)(t:TypeId):iU (w.alloc (.cells (bz vl vc vs m).toArray t)) w.heap.size vl vc vs m:=by
 refine iU.of_range ?_ (fun o=>mM w _ _ o) (by simp);intro j v a;rw[a0G,cell_of_row _ _ _ _ t (0,0) (heap_alloc_new w _)];simpa using a
end Go.Proofs.YtfannoajibacnaaGreatDoor
namespace Go.Proofs.YtfannoajibacnaaGreatDoor.Bkx
open Go.Proofs.Tryz
open Go.Proofs.YtfannoajibacnaaGreatDoor
open Go.RowKit Corb
def bookPut_any(B:BkI)(A:Bks B)(a ac:Option Addr)(cap n u k:Nat)(vs:Value)(m:Nat->Nat)(C:Array Value)(l c:List Int)(w:World)(s:C=(bz (.slice a n cap) (.slice ac n u) vs m).toArray)(O:l.length=n)(G:c.length=n)(h:bE w a l)(i:bE w ac c)(M:k<n)(N:n<=300) :
  Calls prog B.p #[.agg C,.int .i64 (k:Int)] w fun e w'=>e = .returned (.agg #[.int .i64 (btI (c.getD k 0) (l.getD k 0)),.int .i64 (l.getD k 0)])/\Below w.heap.size w w':=by
 have e0:C[0]?=some (.slice a n cap):=by subst s;rfl
 have e1:C[1]?=some (.slice ac n u):=by subst s;rfl
 have F:(n:Int)<=300:=by omega
 have E:(k:Int)<(n:Int):=by omega
 clear s;obtain⟨g,o,rfl,L,x⟩:=h (by omega);obtain⟨g',o',rfl,D,f⟩:=i (by omega);have J:=x k (by omega);have K:=f k (by omega);have hb:Below w.heap.size w ((w.alloc (.cells C B.T)).alloc (.cells #[.int .i64 0,.int .i64 0] 167)):=((Below.refl _ _).alloc (Nat.le_refl _) _).alloc (by simp) _;have j:((w.alloc (.cells C B.T)).alloc (.cells #[.int .i64 0,.int .i64 0] 167)).cell? ⟨w.heap.size+1,0,none⟩=some (.int .i64 0):=by
  have:=cell_of_row ((w.alloc (.cells C B.T)).alloc (.cells #[.int .i64 0,.int .i64 0] 167)) (w.heap.size+1) 0 #[.int .i64 0,.int .i64 0] 167 (0,0) (heap_alloc2_new w _ _);rw[this];rfl
 have q:((w.alloc (.cells C B.T)).alloc (.cells #[.int .i64 0,.int .i64 0] 167)).cell? ⟨w.heap.size+1,1,none⟩=some (.int .i64 0):=by
  have:=cell_of_row ((w.alloc (.cells C B.T)).alloc (.cells #[.int .i64 0,.int .i64 0] 167)) (w.heap.size+1) 1 #[.int .i64 0,.int .i64 0] 167 (0,0) (heap_alloc2_new w _ _);rw[this];rfl
 have b:((w.alloc (.cells C B.T)).alloc (.cells #[.int .i64 0,.int .i64 0] 167)).heap.size=w.heap.size+2:=by simp
 have r:=af (And.intro j (And.intro q (And.intro b hb)));clear x f h i j q b hb;generalize l.getD k 0=y,c.getD k 0=z at *;rcases A with rfl|rfl|rfl;all_goals
  simp only[bkL,bkD,bkN]at r ⊢
  (first|go_enter func177,ntmps177|go_enter func212,ntmps212|go_enter func188,ntmps188)
  go_wp2_with fail;apply(sP _ _ _).mono;rintro e x1⟨rfl,d⟩;obtain⟨j,q,b,hb⟩:=ae r;have H:=(d.cell (p:=⟨w.heap.size+1,0,none⟩) (by rw[b];exact Nat.lt_succ_self _)).trans j;have I:=(d.cell (p:=⟨w.heap.size+1,1,none⟩) (by rw[b];exact Nat.lt_succ_self _)).trans q;have f0:=d.frozen (p:=⟨w.heap.size+1,0,none⟩) (by rw[b];exact Nat.lt_succ_self _);have f1:=d.frozen (p:=⟨w.heap.size+1,1,none⟩) (by rw[b];exact Nat.lt_succ_self _);have t:=hb.trans (d.mono hb.size);clear r j q hb d;go_wp2_with fail;exact bodyPost_ret (v:=.agg #[.int .i64 (btI z y),y]) (by simp[results,results177,results212,results188,go_sem,H,I]) rfl ⟨rfl,ai (ai t (Nat.le_succ _) _) (Nat.le_succ _) _⟩
def l3Piece_any(a ac:Option Addr)(cap n m k:Nat)(l c:List Int)(w:World)(G:l.length=n)(x:c.length=n)(h:bE w a l)(d:bE w ac c)(E:k<n)(F:n<=300)(C:0<=l.getD k 0/\l.getD k 0<=15)(D:0<=c.getD k 0/\c.getD k 0<65536) :
  Ds 262 #[.slice a n cap,.slice ac n m,.int .i64 (k:Int)] w (.agg #[.int .i64 (rv (l.getD k 0).toNat (c.getD k 0).toNat:Nat),.int .i64 (l.getD k 0)]):=by
 have u:(n:Int)<=300:=by omega
 have t:(k:Int)<(n:Int):=by omega
 obtain⟨g,o,rfl,s,i⟩:=h (by omega);obtain⟨g',o',rfl,f,b⟩:=d (by omega);have q:=i k (by omega);have r:=b k (by omega);obtain⟨y0,y1⟩:=C;obtain⟨z0,z1⟩:=D;clear i b h d;generalize l.getD k 0=y,c.getD k 0=z at *;have hb:Below w.heap.size w (w.alloc (.cells #[.int .i64 0,.int .i64 0] 167)):=(Below.refl _ _).alloc (Nat.le_refl _) _;have y2:y<=16:=by omega
 go_enter func262,ntmps262;have j:∀A:Array Value,(w.alloc (.cells A 167)).drew.cell? ⟨g,o+k,none⟩=some (.int .i64 y)/\(w.alloc (.cells A 167)).drew.cell? ⟨g',o'+k,none⟩=some (.int .i64 z):=fun A=>by
  have hb:Below w.heap.size w (w.alloc (.cells A 167)):=(Below.refl _ _).alloc (Nat.le_refl _) _;exact⟨(hb.cell (p:=⟨g,o+k,none⟩) s).trans q,(hb.cell (p:=⟨g',o'+k,none⟩) f).trans r⟩
 go_wp2_with fail
 go_region_held3 (fun W=>W.cell? ⟨g,o+k,none⟩=some (.int .i64 y)/\W.cell? ⟨g',o'+k,none⟩=some (.int .i64 z)) (first|exact j _|assumption) (first|(go_at_call 274;apply(GU _ _ _ z0 z1 y0 y2).mono;rintro e x1⟨rfl,B⟩;subst B))
 go_wp2;exact bodyPost_ret (v:=.agg #[.int .i64 (rv y.toNat z.toNat:Nat),y]) (by simp[results,results262,go_sem]) rfl ⟨rfl,((Below.refl _ _).alloc (Nat.le_refl _) _).drew⟩
end Go.Proofs.YtfannoajibacnaaGreatDoor.Bkx
