/- Texts. -/
import Derived.Test.YtckocaibjciplaaGreatDoorM47
import Derived.OpenShut
import Derived.Deep.RegionHeld3
import Derived.Deep.DrawnRows
import Derived.Lib.AppendZerosOnto
set_option linter.all false
set_option maxRecDepth 100000
set_option maxHeartbeats 4000000
namespace Go.Proofs.YtckocaibjciplaaGreatDoor
open Go.Proofs.Tryz
open Go.RowKit
variable {B b c m o:Nat}{a:Option Addr}{d h mi mo s y:Int}{w w':World}{z:Nat->Int}
def Src.later{len:Nat}(h:Src w a len z)(hb:Below w.heap.size w w'):Src w' a len z:=by
 refine⟨h.1,fun c=>?_⟩;obtain⟨ab,ao,e,b,d⟩:=h.2 c;exact⟨ab,ao,e,a0h b hb.size,fun i f=>(hb.cell (p:=⟨ab,ao+i,none⟩) b).trans (d i f)⟩
def vF(B b m:Nat)(w:World)(h:Rd w B b m)(l:m<=98000) :
  Calls prog 71 #[.pointer b] w fun e w'=>∃v,v∈oC++eG/\e = .returned (.string v)/\Rd w' B b (m+2)/\Kn b w w':=by
 go_enter func71,ntmps71;go_wp2_with fail;apply(bR B b m 6 _ h (by omega) (by omega) (by omega)).mono;rintro e w1⟨r,rfl,n,o,d,a⟩;have k:=af d;have j:=af a.kn;clear h d a;by_cases c:r=0
 . subst c;go_wp2_with fail;apply(RS B b _ 9 w1.heap.size oC 9 w1 rfl rfl k (by omega) (by omega) (by omega)).mono;rintro e w2⟨v,f,rfl,c,i⟩;have g:=af f;clear f;go_wp2;go_ret;exact⟨v,a02.2 (.inl (ae g)),rfl,c,j.trans i⟩
 . go_wp2_with fail;apply(nz B b _ _ k (by omega)).mono;rintro e w2⟨v,f,rfl,c,i⟩;have g:=af f;clear f;go_wp2;go_ret;exact⟨v,a02.2 (.inr (ae g)),rfl,c,j.trans i⟩
def Six.set_other(k:Six w b y mo d h mi s)(v:Value)(g:b≠c):Six (w.setCell ⟨c,o,none⟩ v) b y mo d h mi s:=by
 have e:(w.setCell ⟨c,o,none⟩ v).heap[b]?=w.heap[b]?:=a0M w ⟨c,o,none⟩ v b g;obtain⟨⟨c0,c1,c2,c3,c4,f⟩,⟨f0,f1,f2,f3,f4,f5⟩,a⟩:=k;refine⟨⟨?_,?_,?_,?_,?_,?_⟩,⟨?_,?_,?_,?_,?_,?_⟩,by simpa using a⟩
 . exact(World.cell?_of_block (w:=w) e).trans c0
 . exact(World.cell?_of_block (w:=w) e).trans c1
 . exact(World.cell?_of_block (w:=w) e).trans c2
 . exact(World.cell?_of_block (w:=w) e).trans c3
 . exact(World.cell?_of_block (w:=w) e).trans c4
 . exact(World.cell?_of_block (w:=w) e).trans f
 . exact(World.frozen?_of_block (w:=w) e).trans f0
 . exact(World.frozen?_of_block (w:=w) e).trans f1
 . exact(World.frozen?_of_block (w:=w) e).trans f2
 . exact(World.frozen?_of_block (w:=w) e).trans f3
 . exact(World.frozen?_of_block (w:=w) e).trans f4
 . exact(World.frozen?_of_block (w:=w) e).trans f5
def ug(B b m:Nat)(w:World)(h:Rd w B b m)(S:m<=98000) :
  Calls prog 72 #[.pointer b] w fun e w'=>∃y mo d h mi s,e = .returned (.agg #[.int .i64 y,.int .i64 mo,.int .i64 d,.int .i64 h,.int .i64 mi,.int .i64 s])/\DrS y mo d h mi s/\Rd w' B b (m+8)/\Kb b w w':=by
 have D:=h.lt;have N:=af (qB w (.cells #[.int .i64 0,.int .i64 0,.int .i64 0,.int .i64 0,.int .i64 0,.int .i64 0] 32) D);have X0:=af (gV w 0 0 0 0 0 0 32);have P:=af (h.alloc (.cells #[.int .i64 0,.int .i64 0,.int .i64 0,.int .i64 0,.int .i64 0,.int .i64 0] 32));have i:=af (show w.heap.size≠b by omega);have a:=af D;have E:=af S;clear h D S;go_enter func72,ntmps72;go_wp2_with fail;refine(qE B b m _ P (by have:=ae E;omega)).mono ?_;rintro e w1⟨y,mo,d,h,mi,s,rfl,R,J,M⟩;have O:=af (N.trans M);have X1:=af (X0.kb M i);have F:=af R;have G:=J.lt;have L:=X1.2.2;have T:¬ w1.heap.size=w.heap.size:=by omega
 have k:¬ w.heap.size=w1.heap.size:=by omega
 have n:=af (show w1.heap.size≠b by omega);have g:=af (show w.heap.size<=w1.heap.size by omega);have A1:=af (gV w1 y mo d h mi s 32);have K:=af (qB w1 (.cells #[y,mo,d,h,mi,s] 32) G);have Q:=af (J.alloc (.cells #[y,mo,d,h,mi,s] 32));clear N X0 P M J R G L;go_wp2_with fail;refine(bR B b _ 10 _ Q (by have:=ae E;omega) (by omega) (by omega)).mono ?_;rintro e w2⟨r,rfl,Y,J,l,I⟩;have t:=af ((O.trans K).trans I.kb);have X2:=af ((X1.kb K i).kb I.kb i);have A2:=af (A1.kb I.kb n);have u:=af l;clear O X1 A1 K Q I l;by_cases U:r=0
 .
  subst U;go_wp2_with fail;refine(wv B b _ 5 w2.heap.size [0,29,30,31,32] 3 w2 rfl rfl u (by have:=ae E;omega) (by omega) (by omega)).mono ?_;rintro e w3⟨v,p,rfl,l,f⟩;have j:=af p;have A:=af (t.trans f);have X3:=af (X2.kb f i);have A3:=af (A2.kb f n);have C:=af l;clear t X2 A2 u f l p;have q:=af ((X3.set_other (c:=w1.heap.size) (o:=2) (.int .i64 v) k).store y mo v h mi s);obtain⟨⟨c0,c1,c2,c3,c4,H⟩,⟨f0,f1,f2,f3,f4,f5⟩,x⟩:=ae X3;obtain⟨⟨a0,a1,a2,a3,a4,a5⟩,⟨g0,g1,g2,g3,g4,g5⟩,z⟩:=ae A3;clear X3 A3;go_wp2;obtain⟨⟨z0,z1,z2,z3,z4,z5⟩,_,_⟩:=ae q;refine a0x (v:=.agg #[y,mo,v,h,mi,s]) (by simp[results,a28,go_sem,z0,z1,z2,z3,z4,z5]) rfl ⟨y,mo,v,h,mi,s,rfl,?_,?_,?_⟩
  . obtain⟨_,_,_,_,_,_,_⟩:=ae F;have:=ae j;simp at this;refine⟨?_,?_,?_,?_,?_,?_⟩<;>omega
  . exact sF (lm (C.mono (by omega)) _ (a0h a g)) (ae a) _ _ _ _ _ _
  . exact sf (lj A _ g a) (a0a _) (ae a) _ _ _ _ _ _
 .
  skip
  by_cases V:r=1
  .
   subst V;go_wp2_with fail;refine(wv B b _ 4 w2.heap.size [1979,2100,2108,1900] 3 w2 rfl rfl u (by have:=ae E;omega) (by omega) (by omega)).mono ?_;rintro e w3⟨v,p,rfl,l,f⟩;have j:=af p;have A:=af (t.trans f);have X3:=af (X2.kb f i);have A3:=af (A2.kb f n);have C:=af l;clear t X2 A2 u f l p;have q:=af ((X3.set_other (c:=w1.heap.size) (o:=0) (.int .i64 v) k).store v mo d h mi s);obtain⟨⟨c0,c1,c2,c3,c4,H⟩,⟨f0,f1,f2,f3,f4,f5⟩,x⟩:=ae X3;obtain⟨⟨a0,a1,a2,a3,a4,a5⟩,⟨g0,g1,g2,g3,g4,g5⟩,z⟩:=ae A3;clear X3 A3;go_wp2;obtain⟨⟨z0,z1,z2,z3,z4,z5⟩,_,_⟩:=ae q;refine a0x (v:=.agg #[v,mo,d,h,mi,s]) (by simp[results,a28,go_sem,z0,z1,z2,z3,z4,z5]) rfl ⟨v,mo,d,h,mi,s,rfl,?_,?_,?_⟩
   . obtain⟨_,_,_,_,_,_,_⟩:=ae F;have:=ae j;simp at this;refine⟨?_,?_,?_,?_,?_,?_⟩<;>omega
   . exact sF (lm (C.mono (by omega)) _ (a0h a g)) (ae a) _ _ _ _ _ _
   . exact sf (lj A _ g a) (a0a _) (ae a) _ _ _ _ _ _
  .
   skip
   by_cases W:r=2
   .
    subst W;go_wp2_with fail;refine(wv B b _ 4 w2.heap.size [1,59,60,-2] 3 w2 rfl rfl u (by have:=ae E;omega) (by omega) (by omega)).mono ?_;rintro e w3⟨v,p,rfl,l,f⟩;have j:=af p;have A:=af (t.trans f);have X3:=af (X2.kb f i);have A3:=af (A2.kb f n);have C:=af l;clear t X2 A2 u f l p;have q:=af ((X3.set_other (c:=w1.heap.size) (o:=5) (.int .i64 v) k).store y mo d h mi v);obtain⟨⟨c0,c1,c2,c3,c4,H⟩,⟨f0,f1,f2,f3,f4,f5⟩,x⟩:=ae X3;obtain⟨⟨a0,a1,a2,a3,a4,a5⟩,⟨g0,g1,g2,g3,g4,g5⟩,z⟩:=ae A3;clear X3 A3;go_wp2;obtain⟨⟨z0,z1,z2,z3,z4,z5⟩,_,_⟩:=ae q;refine a0x (v:=.agg #[y,mo,d,h,mi,v]) (by simp[results,a28,go_sem,z0,z1,z2,z3,z4,z5]) rfl ⟨y,mo,d,h,mi,v,rfl,?_,?_,?_⟩
    . obtain⟨_,_,_,_,_,_,_⟩:=ae F;have:=ae j;simp at this;refine⟨?_,?_,?_,?_,?_,?_⟩<;>omega
    . exact sF (lm (C.mono (by omega)) _ (a0h a g)) (ae a) _ _ _ _ _ _
    . exact sf (lj A _ g a) (a0a _) (ae a) _ _ _ _ _ _
   .
    skip
    by_cases X:r=3
    .
     subst X;go_wp2_with fail;refine(wv B b _ 3 w2.heap.size [0,2,13] 3 w2 rfl rfl u (by have:=ae E;omega) (by omega) (by omega)).mono ?_;rintro e w3⟨v,p,rfl,l,f⟩;have j:=af p;have A:=af (t.trans f);have X3:=af (X2.kb f i);have A3:=af (A2.kb f n);have C:=af l;clear t X2 A2 u f l p;have q:=af ((X3.set_other (c:=w1.heap.size) (o:=1) (.int .i64 v) k).store y v d h mi s);obtain⟨⟨c0,c1,c2,c3,c4,H⟩,⟨f0,f1,f2,f3,f4,f5⟩,x⟩:=ae X3;obtain⟨⟨a0,a1,a2,a3,a4,a5⟩,⟨g0,g1,g2,g3,g4,g5⟩,z⟩:=ae A3;clear X3 A3;go_wp2;obtain⟨⟨z0,z1,z2,z3,z4,z5⟩,_,_⟩:=ae q;refine a0x (v:=.agg #[y,v,d,h,mi,s]) (by simp[results,a28,go_sem,z0,z1,z2,z3,z4,z5]) rfl ⟨y,v,d,h,mi,s,rfl,?_,?_,?_⟩
     . obtain⟨_,_,_,_,_,_,_⟩:=ae F;have:=ae j;simp at this;refine⟨?_,?_,?_,?_,?_,?_⟩<;>omega
     . exact sF (lm (C.mono (by omega)) _ (a0h a g)) (ae a) _ _ _ _ _ _
     . exact sf (lj A _ g a) (a0a _) (ae a) _ _ _ _ _ _
    .
     skip
     have X3:=X2;have q:=af (X2.store y mo d h mi s);obtain⟨⟨c0,c1,c2,c3,c4,H⟩,⟨f0,f1,f2,f3,f4,f5⟩,x⟩:=ae X2;obtain⟨⟨a0,a1,a2,a3,a4,a5⟩,⟨g0,g1,g2,g3,g4,g5⟩,z⟩:=ae A2;clear X2 A2 X3;go_wp2;obtain⟨⟨z0,z1,z2,z3,z4,z5⟩,_,_⟩:=ae q;refine a0x (v:=.agg #[y,mo,d,h,mi,s]) (by simp[results,a28,go_sem,z0,z1,z2,z3,z4,z5]) rfl ⟨y,mo,d,h,mi,s,rfl,F,?_,?_⟩
     . exact sF (u.mono (by omega)) (ae a) _ _ _ _ _ _
     . exact sf (ae t) (a0a _) (ae a) _ _ _ _ _ _
end Go.Proofs.YtckocaibjciplaaGreatDoor
set_option maxHeartbeats 3200000
namespace Go.Proofs.YtckocaibjciplaaGreatDoor
open Go.Proofs.Tryz
open Go.RowKit Corb
variable {b p:Nat}{s:ByteArray}{v0 v1 v2:Value}{w w':World}
attribute [local go_sem ↓] Go.wp_at_zero Go.wp_at_succ
end Go.Proofs.YtckocaibjciplaaGreatDoor
namespace Go.Proofs.YtckocaibjciplaaGreatDoor
open Go.Proofs.Tryz
open Go.RowKit
variable {B G L b g i j k n o:Nat}{a:Option Addr}{f:Nat×Nat}{l:List Int}{m:Nat->Nat}{t t':TypeId}{v vc vl vs y:Value}{w w' w1 x y':World}{xs:List Value}
open Corb
def uh(B b m:Nat)(w:World)(h:Rd w B b m)(k:m<=80000) :
  Calls prog 73 #[.pointer b] w fun e w'=>(∃s:ByteArray,e = .returned (.string s)/\s.size<=400)/\Rd w' B b (m+60)/\Kn b w w':=by
 go_enter func73,ntmps73;go_wp2_with fail;apply(bR B b m _ _ h (by omega) (by omega) (by omega)).mono;rintro e w1⟨r,rfl,l,n,c,a⟩;by_cases g:r=0
 . subst g;go_wp2_with (go_at_call 113;apply(pz _ _ _ (by omega) (by omega) (by decide)).mono;rintro e w'⟨⟨t,rfl,j⟩,rfl⟩);go_ret;exact⟨⟨t,rfl,by rw[j];decide⟩,c.mono (by omega),a.kn⟩
 .
  have g0:(r == 0)=false:=by simpa using g
  clear g;go_wp2_with (go_at_call 111;apply(qF B b (m+1) _ c (by omega)).mono;rintro e w2⟨⟨s,rfl,i⟩,f,d⟩);go_ret;exact⟨⟨s,rfl,i⟩,f.mono (by omega),a.kn.trans d⟩
section
variable {α : Type} {f : α → List Value} {c : Nat}
variable {T : TypeId}
end
end Go.Proofs.YtckocaibjciplaaGreatDoor
set_option maxHeartbeats 4000000
namespace Go.Proofs.YtckocaibjciplaaGreatDoor
open Go.Proofs.Tryz
open Go.RowKit
variable {B b c o:Nat}{W w w':World}{d h mi mo s y:Int}{n t:ByteArray}{vs:List Value}{x0 x1 x2 x3 x4 x5 x6:Value}
def Ent.set_other(k:Ent w b n y mo d h mi s t)(v:Value)(j:b≠c):Ent (w.setCell ⟨c,o,none⟩ v) b n y mo d h mi s t:=by
 have e:(w.setCell ⟨c,o,none⟩ v).heap[b]?=w.heap[b]?:=a0M w ⟨c,o,none⟩ v b j;obtain⟨⟨c0,c1,c2,c3,c4,f,g,i⟩,⟨f0,f1,f2,f3,f4,f5,f6,f7⟩,a⟩:=k;refine⟨⟨?_,?_,?_,?_,?_,?_,?_,?_⟩,⟨?_,?_,?_,?_,?_,?_,?_,?_⟩,by simpa using a⟩
 . exact(World.cell?_of_block (w:=w) e).trans c0
 . exact(World.cell?_of_block (w:=w) e).trans c1
 . exact(World.cell?_of_block (w:=w) e).trans c2
 . exact(World.cell?_of_block (w:=w) e).trans c3
 . exact(World.cell?_of_block (w:=w) e).trans c4
 . exact(World.cell?_of_block (w:=w) e).trans f
 . exact(World.cell?_of_block (w:=w) e).trans g
 . exact(World.cell?_of_block (w:=w) e).trans i
 . exact(World.frozen?_of_block (w:=w) e).trans f0
 . exact(World.frozen?_of_block (w:=w) e).trans f1
 . exact(World.frozen?_of_block (w:=w) e).trans f2
 . exact(World.frozen?_of_block (w:=w) e).trans f3
 . exact(World.frozen?_of_block (w:=w) e).trans f4
 . exact(World.frozen?_of_block (w:=w) e).trans f5
 . exact(World.frozen?_of_block (w:=w) e).trans f6
 . exact(World.frozen?_of_block (w:=w) e).trans f7
def sj(B b m:Nat)(w:World)(h:Rd w B b m)(Z:m<=60000) :
  Calls prog 38 #[.pointer b] w fun e w'=>∃n y mo d h mi s t,e = .returned (.agg #[.string n,.int .i64 y,.int .i64 mo,.int .i64 d,.int .i64 h,.int .i64 mi,.int .i64 s,.string t])/\(n∈oC++eG/\t.size<=400)/\Rd w' B b (m+120)/\Kn b w w':=by
 have C:=h.lt;have V:=af (gw w (.cells () 34) C);have X0:=af (jU w ⟨#[]⟩ 0 0 0 0 0 0 ⟨#[]⟩ 34);have X:=af (h.alloc (.cells () 34));have j:=af (show w.heap.size≠b by omega);have a:=af C;have E:=af Z;clear h C Z;go_enter func38,ntmps38;go_wp2_with fail;refine(oW B b m _ X (by have:=ae E;omega)).mono ?_;rintro e w1⟨n,y,mo,d,h,mi,s,t,rfl,⟨hn,ht⟩,L,U⟩;have M:Hid (n∈oC++eG):=a02.2 (.inr hn);have N:=af ht;have W:=af (V.trans U);have X1:=af (X0.kn U j);have F:=L.lt;have T:=X1.2.2;have aa:¬ w1.heap.size=w.heap.size:=by omega
 have g:¬ w.heap.size=w1.heap.size:=by omega
 have k:=af (show w1.heap.size≠b by omega);have f:=af (show w.heap.size<=w1.heap.size by omega);have A1:=af (jU w1 n y mo d h mi s t 34);have P:=af (gw w1 (.cells #[n,y,mo,d,h,mi,s,t] 34) F);have Y:=af (L.alloc (.cells #[n,y,mo,d,h,mi,s,t] 34));clear V X0 X U L hn ht F T;go_wp2_with fail;refine(bR B b _ 10 _ Y (by have:=ae E;omega) (by omega) (by omega)).mono ?_;rintro e w2⟨r,rfl,r0,L,rr,K⟩;have l:=af ((W.trans P).trans K.kn);have X2:=af ((X1.kn P j).kn K.kn j);have A2:=af (A1.kn K.kn k);have p:=af rr;clear W X1 A1 P Y K rr;by_cases q0:r=0
 .
  subst q0;go_wp2_with fail;refine(vF B b _ _ p (by have:=ae E;omega)).mono ?_;rintro e w3⟨v,G,rfl,q,i⟩;have O:=af G;clear G;have x:=af (l.trans i);have X3:=af (X2.kn i j);have A3:=af (A2.kn i k);have z:=af q;clear l X2 A2 p i q;have u:=af (Ent.store (X3.set_other (c:=w1.heap.size) (o:=0) (.string v) g) v y mo d h mi s t);obtain⟨⟨c0,c1,c2,c3,c4,Q,R,S⟩,⟨f0,f1,f2,f3,f4,f5,f6,f7⟩,A⟩:=ae X3;obtain⟨⟨a0,a1,a2,a3,a4,a5,a6,a7⟩,⟨g0,g1,g2,g3,g4,g5,g6,g7⟩,D⟩:=ae A3;clear X3 A3;go_wp2;obtain⟨⟨z0,z1,z2,z3,z4,z5,z6,z7⟩,_,_⟩:=ae u;refine a0x (v:=.agg #[v,y,mo,d,h,mi,s,t]) (by simp[results,a3Y,go_sem,z0,z1,z2,z3,z4,z5,z6,z7]) rfl ⟨v,y,mo,d,h,mi,s,t,rfl,⟨O,N⟩,?_,?_⟩
  . exact nN (dZ (z.mono (by omega)) _ (a0h a f)) (ae a) _ _ _ _ _ _ _ _
  . exact nw (gh x _ f a) (a0a _) (ae a) _ _ _ _ _ _ _ _
 .
  skip
  by_cases q1:r=1
  .
   subst q1;go_wp2_with fail;refine(ug B b _ _ p (by have:=ae E;omega)).mono ?_;rintro e w3⟨y',mo',I,J,mi',s',rfl,ds,q,H⟩;have i:=qC H;clear ds H;have x:=af (l.trans i);have X3:=af (X2.kn i j);have A3:=af (A2.kn i k);have z:=af q;clear l X2 A2 p i q;have u:=af (Ent.store ((((((X3.set_other (c:=w1.heap.size) (o:=1) (.int .i64 y') g).set_other (c:=w1.heap.size) (o:=2) (.int .i64 mo') g).set_other (c:=w1.heap.size) (o:=3) (.int .i64 I) g).set_other (c:=w1.heap.size) (o:=4) (.int .i64 J) g).set_other (c:=w1.heap.size) (o:=5) (.int .i64 mi') g).set_other (c:=w1.heap.size) (o:=6) (.int .i64 s') g) n y' mo' I J mi' s' t);obtain⟨⟨c0,c1,c2,c3,c4,Q,R,S⟩,⟨f0,f1,f2,f3,f4,f5,f6,f7⟩,A⟩:=ae X3;obtain⟨⟨a0,a1,a2,a3,a4,a5,a6,a7⟩,⟨g0,g1,g2,g3,g4,g5,g6,g7⟩,D⟩:=ae A3;clear X3 A3;go_wp2;obtain⟨⟨z0,z1,z2,z3,z4,z5,z6,z7⟩,_,_⟩:=ae u;refine a0x (v:=.agg #[n,y',mo',I,J,mi',s',t]) (by simp[results,a3Y,go_sem,z0,z1,z2,z3,z4,z5,z6,z7]) rfl ⟨n,y',mo',I,J,mi',s',t,rfl,⟨M,N⟩,?_,?_⟩
   . exact nN (dZ (dZ (dZ (dZ (dZ (dZ (z.mono (by omega)) _ (a0h a f)) _ (a0h a f)) _ (a0h a f)) _ (a0h a f)) _ (a0h a f)) _ (a0h a f)) (ae a) _ _ _ _ _ _ _ _
   . exact nw (gh (gh (gh (gh (gh (gh x _ f a) _ f a) _ f a) _ f a) _ f a) _ f a) (a0a _) (ae a) _ _ _ _ _ _ _ _
  .
   skip
   by_cases q2:r=2
   .
    subst q2;go_wp2_with fail;refine(uh B b _ _ p (by have:=ae E;omega)).mono ?_;rintro e w3⟨⟨v,rfl,G⟩,q,i⟩;have O:=af G;clear G;have x:=af (l.trans i);have X3:=af (X2.kn i j);have A3:=af (A2.kn i k);have z:=af q;clear l X2 A2 p i q;have u:=af (Ent.store (X3.set_other (c:=w1.heap.size) (o:=7) (.string v) g) n y mo d h mi s v);obtain⟨⟨c0,c1,c2,c3,c4,Q,R,S⟩,⟨f0,f1,f2,f3,f4,f5,f6,f7⟩,A⟩:=ae X3;obtain⟨⟨a0,a1,a2,a3,a4,a5,a6,a7⟩,⟨g0,g1,g2,g3,g4,g5,g6,g7⟩,D⟩:=ae A3;clear X3 A3;go_wp2;obtain⟨⟨z0,z1,z2,z3,z4,z5,z6,z7⟩,_,_⟩:=ae u;refine a0x (v:=.agg #[n,y,mo,d,h,mi,s,v]) (by simp[results,a3Y,go_sem,z0,z1,z2,z3,z4,z5,z6,z7]) rfl ⟨n,y,mo,d,h,mi,s,v,rfl,⟨M,O⟩,?_,?_⟩
    . exact nN (dZ (z.mono (by omega)) _ (a0h a f)) (ae a) _ _ _ _ _ _ _ _
    . exact nw (gh x _ f a) (a0a _) (ae a) _ _ _ _ _ _ _ _
   .
    skip
    have x:=l;have X3:=X2;have A3:=A2;have z:=p;clear l X2 A2 p;have u:=af (Ent.store X3 n y mo d h mi s t);obtain⟨⟨c0,c1,c2,c3,c4,Q,R,S⟩,⟨f0,f1,f2,f3,f4,f5,f6,f7⟩,A⟩:=ae X3;obtain⟨⟨a0,a1,a2,a3,a4,a5,a6,a7⟩,⟨g0,g1,g2,g3,g4,g5,g6,g7⟩,D⟩:=ae A3;clear X3 A3;go_wp2;obtain⟨⟨z0,z1,z2,z3,z4,z5,z6,z7⟩,_,_⟩:=ae u;refine a0x (v:=.agg #[n,y,mo,d,h,mi,s,t]) (by simp[results,a3Y,go_sem,z0,z1,z2,z3,z4,z5,z6,z7]) rfl ⟨n,y,mo,d,h,mi,s,t,rfl,⟨M,N⟩,?_,?_⟩
    . exact nN (z.mono (by omega)) (ae a) _ _ _ _ _ _ _ _
    . exact nw (ae x) (a0a _) (ae a) _ _ _ _ _ _ _ _
end Go.Proofs.YtckocaibjciplaaGreatDoor
set_option maxHeartbeats 6400000
namespace Go.Proofs.YtckocaibjciplaaGreatDoor
open Go.Proofs.Tryz
open Go.RowKit Corb
variable {V p sz y:Nat}{a b:ByteArray}{l:List (Int×Int)}
def Da(B b m:Nat)(s:ByteArray)(w:World)(h:Rd w B b m)(c:m<=80000)(d:s.size<=9000) :
  Calls prog 22 #[.pointer b,s] w fun e w'=>(∃t:ByteArray,e = .returned (.string t)/\t.size<=9100)/\Rd w' B b (m+10)/\Below b w w':=
 (qD B b m s w h c d).mono fun _ _ ⟨⟨t,e,a,_⟩,h2⟩=>⟨⟨t,e,a⟩,h2⟩
end Go.Proofs.YtckocaibjciplaaGreatDoor
set_option maxHeartbeats 12800000
namespace Go.Proofs.YtckocaibjciplaaGreatDoor
open Go.Proofs.Tryz
open Corb
variable {T c s x:ByteArray}{b i k m:Nat}{u:List UInt8}{w w':World}
open Go.RowKit
def FB(a b:List UInt8):bW a b=bW b a:=by
 unfold bW;rw[Bool.or_comm (fW b a)]
 congr 1
 rw[a2g];simp only[a2z];exact⟨Eq.symm,Eq.symm⟩
def iF:List En->List En->Int×List En
 | [],l=>(0,l)
 | e :: r,l=>if aH l e=0 then iF r (l++[e])else(aH l e,[])
def RY{r l:List En}(h:bF l=true)(a:(iF r l).1=0):bF (iF r l).2=true:=by
 induction r generalizing l with
 | nil=>exact h
 | cons e r ih=>
  unfold iF at a ⊢
  split at a
  . rename_i hc;rw[a0d hc];exact ih ((dp h e).2 hc) a
  . rename_i hc;exact absurd a hc
def p6{l:List En}{e:En}(h:aH l e=0):iF [e] l=(0,l++[e]):=by unfold iF;rw[a0d h];rfl
def mT{l:List En}{e:En}(h:aH l e≠0):iF [e] l=(aH l e,[]):=by unfold iF;rw[a0e h]
end Go.Proofs.YtckocaibjciplaaGreatDoor
set_option maxHeartbeats 6400000
namespace Go.Proofs.YtckocaibjciplaaGreatDoor
open Go.Proofs.Tryz
open Go.RowKit Corb
variable {W w:World}
def LL{M l:List En}{k:Nat}(a:k<M.length):iF (M.drop k) l=if aH l (M.getD k default)=0 then iF (M.drop (k+1)) (l++[M.getD k default])else(aH l (M.getD k default),[]):=by
 have e:M.drop k=M.getD k default :: M.drop (k+1):=by
  rw[a23 a];simp[List.getD,a]
 rw[e];rfl
def Be(M:List En)(a:Option Addr)(c N:Nat)(hN:M.length=N)(v:Value)(l:List En)(bx b:Nat)(m:Int)(w:World)(h:dF w b v l)(hz:bF l=true)(hb:b<=w.heap.size)(hx:w.cell? ⟨bx,0,none⟩=some (.slice a N c))
  (hM:∀W,Below b w W->jI W a M) (hs:∀i,i<N->(M.getD i default).n.size<=1048576/\((M.getD i default).t.size:Int)<=9223372036854775807) (ab:N<=6) (hm:∀W,Below b w W->W.cell? ⟨2,0,none⟩=some (.int .i64 m)) :
  Calls prog 43 #[v,.pointer bx] w (Bc b w (iF M l)):=by
 obtain⟨i0,hi,ac,ad,al⟩:=a0s Tryz.infoEnt;have ao:(N:Int)<=6:=by omega
 have V:=af hN;have HS:=af hs;have HM:=af hM;have CM:=af hm;have Y:=af (a0b h (a0b hz hb));obtain⟨n0,hn0⟩:∃n,l.length=n:=⟨_,rfl⟩;obtain⟨fa,fc,rfl,_,_⟩:=h.formN hn0;clear h hz hb hN hs hM hm ab hn0;go_enter func43,ntmps43;go_wp2_with fail
 go_loopw [0,6,7,10] (fun f _ _ i wr=>∃(k:Nat) (L:List En),k<=N/\i = .int .i64 k/\dF wr b f L/\bF L=true/\iF (M.drop k) L=iF M l/\Below b w wr) (fun _ _ _ i _=>N-(intOf i).toNat)
 case atStart=>exact⟨0,l,a0g _,rfl,Y.1,Y.2.1,rfl,a0c _ _⟩
 case round=>
  obtain⟨k,L,hk,rfl,ho,H,z,e⟩:=hrel;have S:=Y.2.2;have HO:=af ho;have HZ:=af H;have I:=af z;have HB:=af e;have E:Hid (b<=wr.heap.size):=a0E S e.size;obtain⟨n,hn⟩:∃n,L.length=n:=⟨_,rfl⟩;obtain⟨fa,fc,rfl,_,_⟩:=ho.formN hn;have h6:=(dS H).2;have a1:n<=6:=by omega
  have Hn:=af hn;clear ho H z S h6;by_cases G:k<N
  .
   have a0:(k:Int)<(N:Int):=(by omega);obtain⟨g,o,rfl,hg,hc⟩:=HM wr e (by have:=ae V;omega);obtain⟨c0,c1,c2,c3,c4,c5,c6,c7⟩:=hc k (by have:=ae V;omega);have K:=af G;have P:=af (ae HS k G);have x:Hid (iF (M.drop k) L=_):=LL (by have:=ae V;omega);clear hc hk G e;generalize M.getD k default=en at *;have hA:=(a0c wr.heap.size wr).alloc (a0a _) (.cells en 34);have C:=af (HB.trans (hA.mono E));have D:=af (HO.later hA (a0a _));have P1:=af (aG wr en 34);have CR:=af (nZ fa fc L n hn en m _ (eO hn D) (by omega) (fun i hi=>by have:=(oM HZ i (by omega)).1;omega) P.1 P.2 (CM _ (ae C)));clear hA;go_wp2_with fail;refine CR.mono ?_;rintro f x1⟨rfl,p⟩;have J:=af (C.trans (p.mono (a0E E (by simp))));have Z:=af (D.later p (a0a _));have P2:=af (P1.later p P1.1);have Q:Hid (b<=x1.heap.size):=a0E E (a0E (by simp) p.size);clear p CR c0 c1 c2 c3 c4 c5 c6 c7 C D P1 hn;by_cases j:aH L en=0
   .
    rw[show dJ (aH L en) = .nilIface by rw[j];rfl];have O:Hid (bF (L++[en])=true/\iF (M.drop (k+1)) (L++[en])=iF M l):=by
     refine⟨(dp HZ _).2 j,?_⟩;rw[←ae I,ae x,a0d j]
    have A:Hid (n+1<=maxLen/\(n+1)*80<=140737488355328):=by show _/\_;unfold maxLen;omega
    have F:=bU.own Hn Z;have r:=ae Q;have pA:=P2.cells (n:=8) rfl;clear j x I;go_wp2_with (at_builtin;refine a0w _ rfl _ _ 27 rfl b 34 i0 (.agg ()) 8 80 a1m hi ac ad al rfl (by decide) _ _ _ rfl (a0n F _) ⟨x1.heap.size,0,none⟩ 1 1 (bY en) rfl rfl (jZ x1 _ _) (ie _) A.1 A.2 (au r _) ?_;intro v5 x5 B u T;clear T;have R:=aJ (v:=.slice fa n fc) u F (a0a _) r J);have aa:Hid (dF x5 b v5 (L++[en])):=bU.snoc Hn B;have X:=af R;clear B u R F r pA;go_wp2;go_roundw
    case rel=>exact⟨k+1,_,by have:=ae K;omega,by go_num,aa,O.1,O.2,X⟩
    case measure=>have:=ae K;simp[intOf];omega
   .
    rw[show dJ (aH L en) = .iface 99 (.agg #[.int .i64 (aH L en)]) by unfold dJ;rw[a0e j]];have U:Hid ((iF M l).1=aH L en):=by show _=_;rw[←ae I,ae x,a0e j]
    have HC:=af j;clear j x I;generalize aH L en=q at *;go_wp2
    go_ret2
    exact Ih U HC J
  .
   obtain rfl:k=N:=by omega
   have U:Hid (iF M l=(0,L)):=by show _=_;rw[←ae I,a3f (by rw[ae V];exact a0a _)];rfl
   clear e;go_wp2
   go_ret2
   refine⟨⟨.slice fa n fc,?_,⟨_,_,_,rfl⟩,fun _=>?_⟩,HB⟩
   . rw[ae U];rfl
   . rw[ae U];exact HO
def BV(a:Option Addr)(n c:Nat)(w:World) :
  Calls prog 24 #[.slice a n c] w fun f w'=>f = .returned (.func (.func 43) #[] #[.pointer w.heap.size])/\w'=w.alloc (.cells #[.slice a n c] 27):=by
 go_enter func24,ntmps24;go_wp2;go_ret;exact⟨rfl,rfl⟩
def Bf(s:ByteArray)(d:List En->Int×List En)(bx:Nat)(m:Int)(w:World)(R:s.size<=1048576)(I:w.cell? ⟨2,0,none⟩=some (.int .i64 m))(M:mO w)(L:dG w)
  (hd:∀l,bF l=true->(d l).1=0->bF (d l).2=true)
  (X:∀W v l,dr s=some l->Below w.heap.size w W->dF W w.heap.size v l->Calls prog 43 #[v,.pointer bx] W (Bc w.heap.size W (d l))) :
  Calls prog 23 #[s,.func (.func 43) #[] #[.pointer bx]] w fun f w'=>f = .returned (edR s d)/\Below w.heap.size w w':=by
 have C:=af (fs s m w R I M L);have Z:=af I;have P:=af (World.block_lt_of_cell? _ _ I);have Y:=af (fun W (hb:Below w.heap.size w W)=>(hb.cell (p:=⟨2,0,none⟩) P).trans Z);have V:=af (fun W (hb:Below w.heap.size w W)=>M.later hb);have J:=af (fun W (hb:Below w.heap.size w W)=>L.later hb);have U:=af X;have Hd:=af hd;have HS:=af R;clear R I M L hd X;go_enter func23,ntmps23;go_wp2_with fail;refine C.mono ?_;rintro f x1⟨⟨v,rfl,b⟩,h⟩;have B:=af h;clear C;rcases z:dr s with _|l
 .
  have D:=af (oo z d);clear z b h;go_wp2
  go_ret2
  exact⟨by rw[ae D];rfl,B⟩
 .
  rw[z]at b;have CD:=af (ae U x1 v l z h b);have K:=af z;clear z b h U;go_wp2_with fail;refine CD.mono ?_;rintro f x2⟨⟨v2,rfl,⟨a,n,c,rfl⟩,G⟩,E⟩;have o:=af (B.trans E);have A:=af (kT (d l).1 x2 (V _ (ae o)));have H:=af G;clear E G CD;obtain⟨q,hq⟩:∃q,d l=q:=⟨_,rfl⟩;have Hq:=af hq;rw[hq]at A H;rw[hq];clear hq;obtain⟨k,r⟩:=q;simp only at A H;simp only;obtain⟨FV,hFV⟩:∃x,dJ k=x:=⟨_,rfl⟩;rw[hFV]at A;rw[hFV];clear hFV;go_wp2_with fail;refine A.mono ?_;rintro f x3⟨rfl,u⟩;have e:=af (aj o u);have j:=af u;clear u A;by_cases O:k=0
  .
   subst O;have y:bF r=true:=by have:=ae Hd l (jR K) (by rw[ae Hq]);rw[ae Hq]at this;exact this
   have Q:dF x2 w.heap.size (.slice a n c) r:=ae H rfl;obtain⟨N,hN⟩:∃n,r.length=n:=⟨_,rfl⟩;obtain⟨a',c',e',aa,_⟩:=Q.formN hN;cases e'
   have F:=Q.later j (a0a _);have h6:=(dS y).2;have T:=af (nu a c r n hN m x3 (eO hN F) (by omega) (by omega) (fun i hi=>oM y i (by omega)) (Y _ (ae e)) (V _ (ae e)) (J _ (ae e)));have D:=af (lY K Hq);clear y Q F h6 H j o;go_wp2_with fail;refine T.mono ?_;rintro f x4⟨rfl,g⟩;have t:=af (aj e g);clear g T;go_wp2
   go_ret2
   exact⟨by rw[ae D];rfl,t⟩
  .
   have D:=af (nf K Hq O);have S:=af (fun W=>mw s W (by have:=ae HS;omega));have hd:decide (k=0)=false:=a0m O;go_wp2_with fail;refine(S _).mono ?_;rintro f x4⟨rfl,g⟩;have t:=af (aj e g);clear g S;go_wp2
   go_ret2
   exact⟨by rw[ae D];rfl,t⟩
def xr(s:ByteArray)(M:List En)(a:Option Addr)(c N:Nat)(o:M.length=N)(bx:Nat)(m:Int)(w:World)(y:s.size<=1048576)(g:w.cell? ⟨bx,0,none⟩=some (.slice a N c))(k:jI w a M)
  (r:∀i,i<N->(M.getD i default).n.size<=1048576/\((M.getD i default).t.size:Int)<=9223372036854775807) (d:N<=6) (e:w.cell? ⟨2,0,none⟩=some (.int .i64 m)) (u:mO w) (q:dG w) :
  Calls prog 23 #[s,.func (.func 43) #[] #[.pointer bx]] w fun f w'=>f = .returned (edR s (iF M))/\Below w.heap.size w w':=
 Bf s (iF M) bx m w y e u q (fun _ h j=>RY h j)
  (fun W v l z hb x=>Be M a c N o v l bx w.heap.size m W x (jR z) hb.size ((hb.cell (p:=⟨bx,0,none⟩) (World.block_lt_of_cell? _ _ g)).trans g)
   (fun _ b=>k.later (hb.trans b)) r d (fun _ b=>((hb.trans b).cell (p:=⟨2,0,none⟩) (World.block_lt_of_cell? _ _ e)).trans e))
def N8{g:Nat}{e:En}(h:Blk W g (bY e)):jI W (some ⟨g,0,none⟩) [e]:=by
 intro _;refine⟨g,0,rfl,h.1,fun i a=>?_⟩;have e0:i=0:=by simp at a;exact a
 subst e0;exact RI fun j b=>by
  rw[show(0+0*8+j)=j by omega];exact h.cells (n:=8) rfl j b
def nt(s:ByteArray)(e:En)(m:Int)(w:World)(E:s.size<=1048576)(B:e.n.size<=1048576)(F:(e.t.size:Int)<=9223372036854775807)(x:w.cell? ⟨2,0,none⟩=some (.int .i64 m))(D:mO w)(z:dG w) :
  Calls prog 11 #[s,.agg e] w fun f w'=>f = .returned (edR s (iF [e]))/\Below w.heap.size w w':=by
 have r:=af ((a0c w.heap.size w).alloc (a0a _) (.cells e 34));have c:=af (r.alloc r.size (.cells e 34));have P:=af (aG (w.alloc (.cells e 34)) e 34);have G:=af (fun W (hb:Below w.heap.size w W)=>(hb.cell (p:=⟨2,0,none⟩) (World.block_lt_of_cell? _ _ x)).trans x);have CD:=af (fun W (hb:Below w.heap.size w W) g bx (hP:Blk W g (bY e)) (hx:W.cell? ⟨bx,0,none⟩=some (.slice g 1 1))=>xr s [e] (some ⟨g,0,none⟩) 1 1 rfl bx m W E hx (N8 hP) (fun i I=>(by obtain rfl:i=0:=(by omega);exact⟨B,F⟩)) (by omega) (G W hb) (D.later hb) (z.later hb));clear E B F x D z;go_enter func11,ntmps11;go_wp2_with fail;refine(BV _ _ _ _).mono ?_;rintro f x1⟨rfl,l⟩;have u:=(a0c ((w.alloc (.cells e 34)).alloc (.cells e 34)).heap.size _).alloc (a0a _) (.cells #[.slice (some ⟨w.heap.size+1,0,none⟩) 1 1] 27);have q:=P.later u P.1;rw[show(w.alloc (.cells e 34)).heap.size=w.heap.size+1 by simp]at q;have A:=(aG ((w.alloc (.cells e 34)).alloc (.cells e 34)) #[.slice (some ⟨w.heap.size+1,0,none⟩) 1 1] 27).cell 0 _ rfl;have a:=af (aj c u);have C:=af (ae CD _ (ae a) _ _ q A);obtain⟨bx,hbx⟩:∃b,((w.alloc (.cells e 34)).alloc (.cells e 34)).heap.size=b:=⟨_,rfl⟩;rw[hbx]at C;rw[hbx];rw[←l]at C a;clear l r c P q A u CD hbx;go_wp2_with fail;refine C.mono ?_;rintro f x2⟨rfl,j⟩;have o:=af (aj a j);clear j C a;obtain⟨t,k,v⟩:=Ii s (iF [e]);have H:=af v;rw[v];clear v;go_wp2
 go_ret2
 exact⟨by rw[ae H];rfl,o⟩
def Hv(l:List En)(e:En):iF [e] l=if aH l e=0 then(0,l++[e])else(aH l e,[]):=rfl
def wS(s:ByteArray)(e:En)(w:World)(A:s.size<=1048576)(K:e.n.size<=1048576)(M:(e.t.size:Int)<=9223372036854775807) :
  Calls prog 19 #[s,.agg e] w fun f w'=>f = .returned (edR s (iF [e]))/\Below w.heap.size w w':=by
 have J:=af ((a0c w.heap.size w).alloc (a0a _) (.cells e 34));have P:=af (aG w e 34);have C:=af (fun W=>nS s W A);have CA:=af (fun W v l ob h O A=>yD v l e ob W h O A K M);clear A K M;go_enter func19,ntmps19;go_wp2_with fail;refine(C _).mono ?_;rintro f x1⟨⟨v,rfl,b⟩,k⟩;have o:=af (aj J k);have N:=af (P.later k P.1);clear C k J P;rcases m:dr s with _|l
 .
  have r:=af (oo m (iF [e]));clear m b;go_wp2
  go_ret2
  exact⟨by rw[ae r];rfl,o⟩
 .
  rw[m]at b;have b:dF x1 _ v l:=b;have g:=jR m;have H:=af (ae CA x1 v l _ b (dS g).2 (fun i L=>by have:=(oM g i L).1;omega));have E:=af m;obtain⟨a,c,R,_,_⟩:=b.form;have S:=N.cells (n:=8) rfl;clear m b CA g;subst R;go_wp2_with fail;refine H.mono ?_;rintro f x2⟨⟨v2,rfl,z,_⟩,u⟩;have p:=af (aj o u);have D:=af z;clear u z H S;by_cases j:aH l e=0
  .
   have hd:iF [e] l=(0,l++[e]):=(by rw[Hv,a0d j]);have g:=(dp (jR E) e).2 j;obtain⟨n,hn⟩:∃n,(l++[e]).length=n:=⟨_,rfl⟩;have G:=ae D j;obtain⟨a2,c2,rfl,_,_⟩:=G.formN hn;have I:=af (su a2 c2 n (l++[e]) x2 hn (eO hn G) (by have:=(dS g).2;omega) (fun i L=>zQ g (by omega)));have F:=af (Ba g hn);have r:=af (lY E hd);rw[j];clear j hd g hn G D;go_wp2_with fail;refine I.mono ?_;rintro f x3⟨rfl,x⟩;have B:=af (aj p x);rw[←ae F];clear x I;go_wp2
   go_ret2
   exact⟨by rw[ae r];rfl,B⟩
  .
   have hd:iF [e] l=(aH l e,[]):=(by rw[Hv,a0e j]);have r:=af (nf E hd j);have Q:decide (aH l e=0)=false:=a0m j;clear hd D;generalize aH l e=q at *;go_wp2
   go_ret2
   exact⟨by rw[ae r];rfl,p⟩
end Go.Proofs.YtckocaibjciplaaGreatDoor
set_option maxHeartbeats 3200000
namespace Go.Proofs.YtckocaibjciplaaGreatDoor
open Go.Proofs.Tryz
open Go.RowKit Corb
variable {b:Nat}{w w':World}
def Mn{g:Nat}{vs:List Value}(h:Blk w g vs)(a:Kn b w w')(hb:g≠b):Blk w' g vs:=by
 have e:=a.2.1 g h.1 hb;exact⟨a0h h.1 a.2.2,fun i x ex=>⟨(World.cell?_of_block (w:=w) e).trans (h.2 i x ex).1,(World.frozen?_of_block (w:=w) e).trans (h.2 i x ex).2⟩⟩
def nc(a:Option Addr)(len cap:Nat)(z:Nat->Int)(w:World)(h:Src w a len z)(U:len<=cap)(V:len<=maxLen) :
  Calls prog 18 #[.slice a len cap] w fun e w'=>(∃(s:ByteArray) (en:En),e = .returned (.tuple #[s,.agg en])/\s.size<=9100/\en.n.size<=100/\en.t.size<=400)/\Below w.heap.size w w':=by
 have r:=af ((a0c w.heap.size w).alloc (a0a _) (.cells () 34));have I:=af (aG w () 34);have O:=af (h.later r);clear h;go_enter func18,ntmps18;go_wp2_with fail;refine(vH a len cap z _ O U V).mono ?_;rintro e w1⟨rfl,i,c,A⟩;have f:(w.alloc (.cells () 34)).heap.size=w.heap.size+1:=by simp
 have J:=af (I.later c (by simp));have F:=af (r.trans (c.mono (by simp)));rw[f]at i;try rw[f]
 have x:=af (show w.heap.size≠w.heap.size+1 by omega);clear c A r I O f;obtain⟨b,hb⟩:∃b,w.heap.size+1=b:=⟨_,rfl⟩;rw[hb]at i x;try rw[hb]
 have g:Hid (w.heap.size<b):=by show _<_;omega
 clear hb;go_wp2_with fail;refine(vG _ b 0 _ i (by omega)).mono ?_;rintro e w2⟨⟨l1,B,rfl⟩,j,C⟩;have K:=af (Mn J C x);have G:=af (F.trans (C.1.mono (a0r g)));have T:=fG l1;clear i C J F B;generalize dD l1=S1 at *;go_wp2_with fail;refine(Da _ b _ S1 _ j (by omega) (by omega)).mono ?_;rintro e w3⟨⟨t,rfl,P⟩,k,D⟩;have L:=af (K.later D g);have H:=af (G.trans (D.mono (a0r g)));have R:=af P;clear j D K G T P;go_wp2_with fail;refine(sj _ b _ _ k (by omega)).mono ?_;rintro e w4⟨n,y,mo,d,h,mi,s,tt,rfl,⟨N,q⟩,p,E⟩;have m:=af (Mn L E x);have Q:=af (H.trans (E.1.mono (a0r g)));have l:=af (a0b (Ay N) q);clear k E L H p N q;have S:=af (Blk.set8 m (.string n) (.int .i64 y) (.int .i64 mo) (.int .i64 d) (.int .i64 h) (.int .i64 mi) (.int .i64 s) (.string tt));have u:=af (ai (o:=7) (ai (o:=6) (ai (o:=5) (ai (o:=4) (ai (o:=3) (ai (o:=2) (ai (o:=1) (ai (o:=0) Q (a0a _) (.string n)) (a0a _) (.int .i64 y)) (a0a _) (.int .i64 mo)) (a0a _) (.int .i64 d)) (a0a _) (.int .i64 h)) (a0a _) (.int .i64 mi)) (a0a _) (.int .i64 s)) (a0a _) (.string tt));have W:=m.cells (n:=8) rfl;have f5:=m.frees (n:=8) rfl;have M:=m.1;clear m;go_wp2;have zc:=S.cells (n:=8) rfl;have z0:=zc 0 (by decide);have z1:=zc 1 (by decide);have z2:=zc 2 (by decide);have z3:=zc 3 (by decide);have z4:=zc 4 (by decide);have z5:=zc 5 (by decide);have z6:=zc 6 (by decide);have z7:=zc 7 (by decide);simp only[List.getElem?_cons_zero,List.getElem?_cons_succ]at z0 z1 z2 z3 z4 z5 z6 z7;exact a0x (v:=.tuple #[t,.agg #[n,y,mo,d,h,mi,s,tt]]) (by simp[results,results18,go_sem,z0,z1,z2,z3,z4,z5,z6,z7]) rfl ⟨⟨t,⟨n,y,mo,d,h,mi,s,tt⟩,rfl,R,l.1,l.2⟩,u⟩
end Go.Proofs.YtckocaibjciplaaGreatDoor
set_option maxHeartbeats 6400000
namespace Go.Proofs.YtckocaibjciplaaGreatDoor
open Corb
variable {k:Nat}{x:ByteArray}
def MQ(e:En):Nat:=(loE e).size+46+e.n.size
def JM(l:List En):∀s,(l.foldl Hu s).1.size+(l.foldl Hu s).2.size=s.1.size+s.2.size+(l.map MQ).sum:=by
 induction l with
 | nil=>intro s;simp
 | cons e l ih=>
  intro s;rw[List.foldl_cons,ih,a0D,a0N];simp only[Hu,a0G,qz,MQ];omega
def zl{l:List En}(h:bF l=true):(dD l).size=22+(l.map MQ).sum:=by
 have:=JM l (⟨#[]⟩,⟨#[]⟩);have e0:(⟨#[]⟩:ByteArray).size=0:=rfl;rw[E9 h];unfold aF;rw[this];simp only[e0];omega
def wL{l:List En}{e f:En}(h:bF l=true)(m:aH l e=0)(o:aH l f=0):aH (l++[e]) f=0<->aH (l++[f]) e=0:=by
 have key:∀{a b:En},aH l a=0->aH l b=0->aH (l++[a]) b=0->aH (l++[b]) a=0:=by
  intro a b d hb h2;unfold aH at *;split at d
  .
   rename_i ea
   split at hb
   .
    rename_i eb;rw[a0d eb]at h2;rw[a0d ea]
    split at d
    . cases d
    .
     rename_i na
     split at hb
     . cases hb
     .
      rename_i nb
      split at h2
      . cases h2
      .
       rename_i n2
       split at h2
       . cases h2
       .
        rename_i l2;have i:bW a.n.data.toList b.n.data.toList=false:=by
         have:iG (l++[a]) b.n=false:=by
          cases j:iG (l++[a]) b.n with
          | true=>exact absurd j n2
          | false=>rfl
         exact(rB _ _).1 this a (by simp)
        have k:iG (l++[b]) a.n=false:=(rB _ _).2 fun g c=>by
         rcases a02.1 c with c|c
         .
          have:iG l a.n=false:=by
           cases j:iG l a.n with
           | true=>exact absurd j na
           | false=>rfl
          exact(rB _ _).1 this g c
         . rw[a09.1 c,FB];exact i
        rw[k,a0e (by decide),a0e (by simp at l2 ⊢;omega)]
   . cases hb
  . cases d
 exact⟨key m o,key o m⟩
def yR{l:List En}{e f:En}(h:aH (l++[e]) f=0):aH l f=0:=by
 unfold aH at *;split at h
 .
  rename_i ef;rw[a0d ef]
  split at h
  . cases h
  .
   rename_i n2
   split at h
   . cases h
   .
    rename_i l2;have:iG (l++[e]) f.n=false:=by
     cases b:iG (l++[e]) f.n with
     | true=>exact absurd b n2
     | false=>rfl
    have c:iG l f.n=false:=(rB _ _).2 fun g a=>(rB _ _).1 this g (a02.2 (.inl a));rw[c,a0e (by decide),a0e (by simp at l2;omega)]
 . cases h
def Lq{l:List En}{e f:En}(h:bF l=true)(a:aH l e=0)(h2:aH (l++[e]) f=0):bF (l++[e]++[f])=true/\bF (l++[f]++[e])=true /\
  zV (l++[e]++[f]) e.n = .tuple #[e.t,.bool true]/\zV (l++[f]++[e]) e.n = .tuple #[e.t,.bool true]/\(dD (l++[e]++[f])).size=(dD (l++[f]++[e])).size:=by
 have b:=yR h2;have z1:=(dp ((dp h e).2 a) f).2 h2;have z2:=(dp ((dp h f).2 b) e).2 ((wL h a b).1 h2);have g1:(l++[e]++[f]).getD l.length default=e:=by simp[List.getD]
 have g2:(l++[f]++[e]).getD (l.length+1) default=e:=by simp[List.getD]
 have a1:=L2 z1 (i:=l.length) (by simp);have a2:=L2 z2 (i:=l.length+1) (by simp);rw[g1]at a1;rw[g2]at a2;refine⟨z1,z2,by rw[zW a1,g1],by rw[zW a2,g2],?_⟩;rw[zl z1,zl z2];simp only[a0J,a0D,a1E,List.sum_append,a0N,a3g];omega
open Go.RowKit
def ud(a:Option Addr)(len cap:Nat)(zs:List Int)(a1:Option Addr)(len1 K:Nat)(zs1:List Int)(m:Int)(w:World)(w0:xR .u8 w a len cap zs)(v0:xR .u8 w a1 len1 K zs1)(hm:w.cell? ⟨2,0,none⟩=some (.int .i64 m))(hg:mO w)(hO:dG w) :
  Ds 6 #[.slice a len cap,.slice a1 len1 K] w (.bool true):=by
 obtain⟨⟨z,ad⟩,hc,O⟩:=GM w0;obtain⟨⟨z1,Q⟩,b0,P⟩:=GM v0;have a9:=af (nc a len cap z w ad hc O);have ab:=af (fun W (D:Below w.heap.size w W)=>nc a1 len1 K z1 W (Q.later D) b0 P);have I:=af (fun W (hb:Below w.heap.size w W)=>a0b ((hb.cell (p:=⟨2,0,none⟩) (World.block_lt_of_cell? _ _ hm)).trans hm) (a0b (hg.later hb) (hO.later hb)));unfold maxLen at O P;clear w0 v0 ad Q hm hg hO;by_cases hl:(len:Int)<=1048576
 .
  by_cases b4:(len1:Int)<=1048576
  .
   go_enter Tryz.func6,Tryz.ntmps6;go_wp2_with fail;refine a9.mono ?_;rintro e w1⟨⟨S,en,rfl,bl,bd⟩,bc⟩;have al:=af bc;clear bc a9 O hc;have a2:=af bl;have V:=af bd;clear bl bd;obtain⟨nen,hnen⟩:∃x,w1.heap.size=x:=⟨_,rfl⟩;have ao:=af (al.alloc al.size (.cells en 34));have Een:=af (aG w1 en 34);rw[hnen]at Een;clear al;go_wp2_with fail;refine(ab _ (ae ao)).mono ?_;rintro e w3⟨⟨S2,fn,rfl,_,be⟩,a3⟩;try rw[hnen]
   clear hnen;generalize w1.alloc (.cells en 34)=w2 at *;have a0:=af (aj ao a3)
   replace Een:=af (Een.later a3 Een.1)
   have ba:=af be;clear a3 ao be ab;obtain⟨nfn,hnfn⟩:∃x,w3.heap.size=x:=⟨_,rfl⟩;have g:=af (a0.alloc a0.size (.cells fn 34));have Efn:=af (aG w3 fn 34);rw[hnfn]at Efn;clear a0
   replace Een:=af (Een.later ((a0c w3.heap.size w3).alloc (a0a _) (.cells fn 34)) Een.1)
   have CE:=af (fun(Y:ByteArray) (hY:Y.size<=10000) W (D:Below w.heap.size w W)=>nt Y en m W (by omega) (by have:=ae V;omega) (by have:=ae V;omega) (I W D).1 (I W D).2.1 (I W D).2.2);have CF:=af (fun(Y:ByteArray) (hY:Y.size<=10000) W (D:Below w.heap.size w W)=>nt Y fn m W (by omega) (by have:=ae ba;omega) (by have:=ae ba;omega) (I W D).1 (I W D).2.1 (I W D).2.2);have U:=af (fun W=>wS S en W (by have:=ae a2;omega) (by have:=ae V;omega) (by have:=ae V;omega));have T:=af (ae CE S (by have:=ae a2;omega));have F:=af (ae CF S (by have:=ae a2;omega));rcases R:dr S with _|l
   .
    rw[oo R]at T U;clear R;have c:=Een.cells (n:=8) rfl;go_wp2_with fail;refine(T _ (ae g)).mono ?_;rintro e w5⟨rfl,b⟩;try rw[hnfn]
    clear hnfn;generalize w3.alloc (.cells fn 34)=w4 at *;have j:=af (aj g b)
    replace Een:=af (Een.later b Een.1)
    clear b g c;have c:=Een.cells (n:=8) rfl;go_wp2_with fail;refine(U _).mono ?_;rintro e w6⟨rfl,f⟩;have i:=af (aj j f);clear f j c;go_wp2;go_ret;exact⟨rfl,i⟩
   .
    have B:=jR R;by_cases N:aH l en=0
    .
     have Z:=(dp B en).2 N;have H:=lR Z;have a4:=fG (l++[en]);have a5:=fG (l++[fn]);have C:=af (ae CF (dD (l++[en])) (by omega));have G:=af (ae CE (dD (l++[fn])) (by omega));rw[lY R (p6 N)]at T U;by_cases L:aH l fn=0
     .
      have aa:=lR ((dp B fn).2 L);rw[lY R (p6 L)]at F;by_cases h2:aH (l++[en]) fn=0
      .
       have h4:=(wL B N L).1 h2;obtain⟨z1',z2',f1,f2,bk⟩:=Lq B N h2;have a6:=af (fun W (D:Below w.heap.size w W)=>jt (dD (l++[fn]++[en])) en.n m W (by have:=fG (l++[fn]++[en]);omega) (I W D).1 (I W D).2.1 (I W D).2.2);have a7:=af (fun W (D:Below w.heap.size w W)=>jt (dD (l++[en]++[fn])) en.n m W (by have:=fG (l++[en]++[fn]);omega) (I W D).1 (I W D).2.1 (I W D).2.2);rw[lR z2',show(some (l++[fn]++[en])).getD []=l++[fn]++[en]from rfl,f2]at a6;rw[lR z1',show(some (l++[en]++[fn])).getD []=l++[en]++[fn]from rfl,f1]at a7;rw[lY H (p6 h2)]at C;rw[lY aa (p6 h4)]at G;have s1:=fG (l++[en]++[fn]);have s1I:((dD (l++[en]++[fn])).size:Int)<=4000:=(by omega);generalize dD (l++[en])=X,dD (l++[fn])=Y,dD (l++[en]++[fn])=XY,dD (l++[fn]++[en])=YX at *;have bb:Hid ((XY.size:Int)=(YX.size:Int)):=by show _=_;rw[bk]
       clear R B N Z H a4 a5 L aa h2 h4 z1' z2' f1 f2 bk s1;have c:=Een.cells (n:=8) rfl;go_wp2_with fail;refine(T _ (ae g)).mono ?_;rintro e w5⟨rfl,b⟩;try rw[hnfn]
       clear hnfn;generalize w3.alloc (.cells fn 34)=w4 at *;have j:=af (aj g b)
       replace Een:=af (Een.later b Een.1)
       replace Efn:=af (Efn.later b Efn.1)
       clear b g c;have c:=Een.cells (n:=8) rfl;go_wp2_with fail;refine(U _).mono ?_;rintro e w6⟨rfl,f⟩;have i:=af (aj j f)
       replace Een:=af (Een.later f Een.1)
       replace Efn:=af (Efn.later f Efn.1)
       clear f j c;have c:=Efn.cells (n:=8) rfl;go_wp2_with fail;refine(C _ (ae i)).mono ?_;rintro e w7⟨rfl,k⟩;have u:=af (aj i k)
       replace Een:=af (Een.later k Een.1)
       replace Efn:=af (Efn.later k Efn.1)
       clear k i c;have c:=Efn.cells (n:=8) rfl;go_wp2_with fail;refine(F _ (ae u)).mono ?_;rintro e w8⟨rfl,o⟩;have v:=af (aj u o)
       replace Een:=af (Een.later o Een.1)
       replace Efn:=af (Efn.later o Efn.1)
       clear o u c;have c:=Een.cells (n:=8) rfl;go_wp2_with fail;refine(G _ (ae v)).mono ?_;rintro e w9⟨rfl,A⟩;have E:=af (aj v A)
       replace Een:=af (Een.later A Een.1)
       clear A v c;have c:=Een.cells (n:=8) rfl;go_wp2_with fail;refine(a6 _ (ae E)).mono ?_;rintro e w10⟨rfl,M⟩;have J:=af (aj E M)
       replace Een:=af (Een.later M Een.1)
       clear M E c;have c:=Een.cells (n:=8) rfl;go_wp2_with fail;refine(a7 _ (ae J)).mono ?_;rintro e w11⟨rfl,ac⟩;have a8:=af (aj J ac);clear ac J c;have b1:=ae bb;go_wp2;go_ret;exact⟨rfl,a8⟩
      .
       have h4:aH (l++[fn]) en≠0:=fun e=>h2 ((wL B N L).2 e);rw[nf (r:=[]) H (mT h2) h2]at C;rw[nf (r:=[]) aa (mT h4) h4]at G;obtain⟨q2,hq2⟩:∃q,aH (l++[en]) fn=q:=⟨_,rfl⟩;obtain⟨q4,hq4⟩:∃q,aH (l++[fn]) en=q:=⟨_,rfl⟩;rw[hq2]at C h2;rw[hq4]at G h4;have bs:(q2 != 0)=true:=by simpa using h2
       have b3:(q4 != 0)=true:=by simpa using h4
       generalize dD (l++[en])=X,dD (l++[fn])=Y at *;clear R B N Z H a4 a5 L aa hq2 hq4;have c:=Een.cells (n:=8) rfl;go_wp2_with fail;refine(T _ (ae g)).mono ?_;rintro e w5⟨rfl,b⟩;try rw[hnfn]
       clear hnfn;generalize w3.alloc (.cells fn 34)=w4 at *;have j:=af (aj g b)
       replace Een:=af (Een.later b Een.1)
       replace Efn:=af (Efn.later b Efn.1)
       clear b g c;have c:=Een.cells (n:=8) rfl;go_wp2_with fail;refine(U _).mono ?_;rintro e w6⟨rfl,f⟩;have i:=af (aj j f)
       replace Een:=af (Een.later f Een.1)
       replace Efn:=af (Efn.later f Efn.1)
       clear f j c;have c:=Efn.cells (n:=8) rfl;go_wp2_with fail;refine(C _ (ae i)).mono ?_;rintro e w7⟨rfl,k⟩;have u:=af (aj i k)
       replace Een:=af (Een.later k Een.1)
       replace Efn:=af (Efn.later k Efn.1)
       clear k i c;have c:=Efn.cells (n:=8) rfl;go_wp2_with fail;refine(F _ (ae u)).mono ?_;rintro e w8⟨rfl,o⟩;have v:=af (aj u o)
       replace Een:=af (Een.later o Een.1)
       replace Efn:=af (Efn.later o Efn.1)
       clear o u c;have c:=Een.cells (n:=8) rfl;go_wp2_with fail;refine(G _ (ae v)).mono ?_;rintro e w9⟨rfl,A⟩;have E:=af (aj v A);clear A v c;go_wp2;go_ret;exact⟨rfl,E⟩
     .
      have h2:aH (l++[en]) fn≠0:=fun e=>L (yR e);rw[nf (r:=[]) R (mT L) L]at F;rw[nf (r:=[]) H (mT h2) h2]at C;obtain⟨q2,hq2⟩:∃q,aH (l++[en]) fn=q:=⟨_,rfl⟩;obtain⟨q3,hq3⟩:∃q,aH l fn=q:=⟨_,rfl⟩;rw[hq2]at C h2;rw[hq3]at F L;have bs:(q2 != 0)=true:=by simpa using h2
      have b2:(q3 != 0)=true:=by simpa using L
      generalize dD (l++[en])=X at *;clear R B N Z H a4 a5 hq2 hq3 G;have c:=Een.cells (n:=8) rfl;go_wp2_with fail;refine(T _ (ae g)).mono ?_;rintro e w5⟨rfl,b⟩;try rw[hnfn]
      clear hnfn;generalize w3.alloc (.cells fn 34)=w4 at *;have j:=af (aj g b)
      replace Een:=af (Een.later b Een.1)
      replace Efn:=af (Efn.later b Efn.1)
      clear b g c;have c:=Een.cells (n:=8) rfl;go_wp2_with fail;refine(U _).mono ?_;rintro e w6⟨rfl,f⟩;have i:=af (aj j f)
      replace Een:=af (Een.later f Een.1)
      replace Efn:=af (Efn.later f Efn.1)
      clear f j c;have c:=Efn.cells (n:=8) rfl;go_wp2_with fail;refine(C _ (ae i)).mono ?_;rintro e w7⟨rfl,k⟩;have u:=af (aj i k)
      replace Een:=af (Een.later k Een.1)
      replace Efn:=af (Efn.later k Efn.1)
      clear k i c;have c:=Efn.cells (n:=8) rfl;go_wp2_with fail;refine(F _ (ae u)).mono ?_;rintro e w8⟨rfl,o⟩;have v:=af (aj u o)
      replace Een:=af (Een.later o Een.1)
      replace Efn:=af (Efn.later o Efn.1)
      clear o u c;have c:=Een.cells (n:=8) rfl;go_wp2_with fail;refine(T _ (ae v)).mono ?_;rintro e w9⟨rfl,A⟩;have E:=af (aj v A);clear A v c;go_wp2;go_ret;exact⟨rfl,E⟩
    .
     rw[nf (r:=[]) R (mT N) N]at T U;obtain⟨q,hq⟩:∃q,aH l en=q:=⟨_,rfl⟩;rw[hq]at T U N;clear hq R B;have c:=Een.cells (n:=8) rfl;go_wp2_with fail;refine(T _ (ae g)).mono ?_;rintro e w5⟨rfl,b⟩;try rw[hnfn]
     clear hnfn;generalize w3.alloc (.cells fn 34)=w4 at *;have j:=af (aj g b)
     replace Een:=af (Een.later b Een.1)
     clear b g c;have c:=Een.cells (n:=8) rfl;go_wp2_with fail;refine(U _).mono ?_;rintro e w6⟨rfl,f⟩;have i:=af (aj j f);clear f j c;go_wp2;go_ret;exact⟨rfl,i⟩
  . go_enter Tryz.func6,Tryz.ntmps6;go_wp2;go_ret;exact⟨rfl,a0c _ _⟩
 . go_enter Tryz.func6,Tryz.ntmps6;go_wp2;go_ret;exact⟨rfl,a0c _ _⟩
end Go.Proofs.YtckocaibjciplaaGreatDoor
