/- Texts. -/
import Derived.Test.YtfannoajibacnaaGreatDoorM47
import Derived.OpenShut
import Derived.Deep.RegionHeld3
import Derived.Deep.DrawnRows
import Derived.Lib.AppendZerosOnto
set_option linter.all false
set_option maxRecDepth 100000
set_option maxHeartbeats 4000000
namespace Go.Proofs.YtfannoajibacnaaGreatDoor
open Go.Proofs.Tryz
open Go.RowKit
variable {B b c m o:Nat}{a:Option Addr}{d h mi mo s y:Int}{w w':World}{z:Nat->Int}
def Src.later{len:Nat}(h:Src w a len z)(hb:Below w.heap.size w w'):Src w' a len z:=by
 refine⟨h.1,fun c=>?_⟩;obtain⟨ab,ao,e,b,d⟩:=h.2 c;exact⟨ab,ao,e,a0h b hb.size,fun i f=>(hb.cell (p:=⟨ab,ao+i,none⟩) b).trans (d i f)⟩
def Six.set_other(k:Six w b y mo d h mi s)(v:Value)(g:b≠c):Six (w.setCell ⟨c,o,none⟩ v) b y mo d h mi s:=by
 have e:(w.setCell ⟨c,o,none⟩ v).heap[b]?=w.heap[b]?:=a0M w ⟨c,o,none⟩ v b g;obtain⟨⟨c0,c1,c2,c3,c4,f⟩,⟨f0,f1,f2,f3,f4,f5⟩,a⟩:=k;refine⟨⟨?_,?_,?_,?_,?_,?_⟩,⟨?_,?_,?_,?_,?_,?_⟩,by simpa using a⟩
 . exact(World.cell?_of_block (w:=w) e).trans c0
 . exact(World.cell?_of_block (w:=w) e).trans c1
 . exact(World.cell?_of_block (w:=w) e).trans c2
 . exact(World.cell?_of_block (w:=w) e).trans c3
 . exact(World.cell?_of_block (w:=w) e).trans c4
 . exact(World.cell?_of_block (w:=w) e).trans f
 . exact(World.frozen?_of_block (w:=w) e).trans f0
 . exact(World.frozen?_of_block (w:=w) e).trans f1
 . exact(World.frozen?_of_block (w:=w) e).trans f2
 . exact(World.frozen?_of_block (w:=w) e).trans f3
 . exact(World.frozen?_of_block (w:=w) e).trans f4
 . exact(World.frozen?_of_block (w:=w) e).trans f5
def uP(B b m:Nat)(w:World)(h:Rd w B b m)(S:m<=98000) :
  Calls prog 83 #[.pointer b] w fun e w'=>∃y mo d h mi s,e = .returned (.agg #[.int .i64 y,.int .i64 mo,.int .i64 d,.int .i64 h,.int .i64 mi,.int .i64 s])/\DrS y mo d h mi s/\Rd w' B b (m+8)/\Kb b w w':=by
 have D:=h.lt;have N:=af (rm w (.cells #[.int .i64 0,.int .i64 0,.int .i64 0,.int .i64 0,.int .i64 0,.int .i64 0] 24) D);have X0:=af (ir w 0 0 0 0 0 0 24);have P:=af (h.alloc (.cells #[.int .i64 0,.int .i64 0,.int .i64 0,.int .i64 0,.int .i64 0,.int .i64 0] 24));have i:=af (show w.heap.size≠b by omega);have a:=af D;have E:=af S;clear h D S;go_enter func83,ntmps83;go_wp2_with fail;refine(rp B b m _ P (by have:=ae E;omega)).mono ?_;rintro e w1⟨y,mo,d,h,mi,s,rfl,R,J,M⟩;have O:=af (N.trans M);have X1:=af (X0.kb M i);have F:=af R;have G:=J.lt;have L:=X1.2.2;have T:¬ w1.heap.size=w.heap.size:=by omega
 have k:¬ w.heap.size=w1.heap.size:=by omega
 have n:=af (show w1.heap.size≠b by omega);have g:=af (show w.heap.size<=w1.heap.size by omega);have A1:=af (ir w1 y mo d h mi s 24);have K:=af (rm w1 (.cells #[y,mo,d,h,mi,s] 24) G);have Q:=af (J.alloc (.cells #[y,mo,d,h,mi,s] 24));clear N X0 P M J R G L;go_wp2_with fail;refine(bY B b _ 10 _ Q (by have:=ae E;omega) (by omega) (by omega)).mono ?_;rintro e w2⟨r,rfl,Y,J,l,I⟩;have t:=af ((O.trans K).trans I.kb);have X2:=af ((X1.kb K i).kb I.kb i);have A2:=af (A1.kb I.kb n);have u:=af l;clear O X1 A1 K Q I l;by_cases U:r=0
 .
  subst U;go_wp2_with fail;refine(xz B b _ 5 w2.heap.size [0,29,30,31,32] 3 w2 rfl rfl u (by have:=ae E;omega) (by omega) (by omega)).mono ?_;rintro e w3⟨v,p,rfl,l,f⟩;have j:=af p;have A:=af (t.trans f);have X3:=af (X2.kb f i);have A3:=af (A2.kb f n);have C:=af l;clear t X2 A2 u f l p;have q:=af ((X3.set_other (c:=w1.heap.size) (o:=2) (.int .i64 v) k).store y mo v h mi s);obtain⟨⟨c0,c1,c2,c3,c4,H⟩,⟨f0,f1,f2,f3,f4,f5⟩,x⟩:=ae X3;obtain⟨⟨a0,a1,a2,a3,a4,a5⟩,⟨g0,g1,g2,g3,g4,g5⟩,z⟩:=ae A3;clear X3 A3;go_wp2;obtain⟨⟨z0,z1,z2,z3,z4,z5⟩,_,_⟩:=ae q;refine a0x (v:=.agg #[y,mo,v,h,mi,s]) (by simp[results,a3c,go_sem,z0,z1,z2,z3,z4,z5]) rfl ⟨y,mo,v,h,mi,s,rfl,?_,?_,?_⟩
  . obtain⟨_,_,_,_,_,_,_⟩:=ae F;have:=ae j;simp at this;refine⟨?_,?_,?_,?_,?_,?_⟩<;>omega
  . exact tr (lQ (C.mono (by omega)) _ (a0h a g)) (ae a) _ _ _ _ _ _
  . exact sZ (lN A _ g a) (a0a _) (ae a) _ _ _ _ _ _
 .
  skip
  by_cases V:r=1
  .
   subst V;go_wp2_with fail;refine(xz B b _ 4 w2.heap.size [1979,2100,2108,1900] 3 w2 rfl rfl u (by have:=ae E;omega) (by omega) (by omega)).mono ?_;rintro e w3⟨v,p,rfl,l,f⟩;have j:=af p;have A:=af (t.trans f);have X3:=af (X2.kb f i);have A3:=af (A2.kb f n);have C:=af l;clear t X2 A2 u f l p;have q:=af ((X3.set_other (c:=w1.heap.size) (o:=0) (.int .i64 v) k).store v mo d h mi s);obtain⟨⟨c0,c1,c2,c3,c4,H⟩,⟨f0,f1,f2,f3,f4,f5⟩,x⟩:=ae X3;obtain⟨⟨a0,a1,a2,a3,a4,a5⟩,⟨g0,g1,g2,g3,g4,g5⟩,z⟩:=ae A3;clear X3 A3;go_wp2;obtain⟨⟨z0,z1,z2,z3,z4,z5⟩,_,_⟩:=ae q;refine a0x (v:=.agg #[v,mo,d,h,mi,s]) (by simp[results,a3c,go_sem,z0,z1,z2,z3,z4,z5]) rfl ⟨v,mo,d,h,mi,s,rfl,?_,?_,?_⟩
   . obtain⟨_,_,_,_,_,_,_⟩:=ae F;have:=ae j;simp at this;refine⟨?_,?_,?_,?_,?_,?_⟩<;>omega
   . exact tr (lQ (C.mono (by omega)) _ (a0h a g)) (ae a) _ _ _ _ _ _
   . exact sZ (lN A _ g a) (a0a _) (ae a) _ _ _ _ _ _
  .
   skip
   by_cases W:r=2
   .
    subst W;go_wp2_with fail;refine(xz B b _ 4 w2.heap.size [1,59,60,-2] 3 w2 rfl rfl u (by have:=ae E;omega) (by omega) (by omega)).mono ?_;rintro e w3⟨v,p,rfl,l,f⟩;have j:=af p;have A:=af (t.trans f);have X3:=af (X2.kb f i);have A3:=af (A2.kb f n);have C:=af l;clear t X2 A2 u f l p;have q:=af ((X3.set_other (c:=w1.heap.size) (o:=5) (.int .i64 v) k).store y mo d h mi v);obtain⟨⟨c0,c1,c2,c3,c4,H⟩,⟨f0,f1,f2,f3,f4,f5⟩,x⟩:=ae X3;obtain⟨⟨a0,a1,a2,a3,a4,a5⟩,⟨g0,g1,g2,g3,g4,g5⟩,z⟩:=ae A3;clear X3 A3;go_wp2;obtain⟨⟨z0,z1,z2,z3,z4,z5⟩,_,_⟩:=ae q;refine a0x (v:=.agg #[y,mo,d,h,mi,v]) (by simp[results,a3c,go_sem,z0,z1,z2,z3,z4,z5]) rfl ⟨y,mo,d,h,mi,v,rfl,?_,?_,?_⟩
    . obtain⟨_,_,_,_,_,_,_⟩:=ae F;have:=ae j;simp at this;refine⟨?_,?_,?_,?_,?_,?_⟩<;>omega
    . exact tr (lQ (C.mono (by omega)) _ (a0h a g)) (ae a) _ _ _ _ _ _
    . exact sZ (lN A _ g a) (a0a _) (ae a) _ _ _ _ _ _
   .
    skip
    by_cases X:r=3
    .
     subst X;go_wp2_with fail;refine(xz B b _ 3 w2.heap.size [0,2,13] 3 w2 rfl rfl u (by have:=ae E;omega) (by omega) (by omega)).mono ?_;rintro e w3⟨v,p,rfl,l,f⟩;have j:=af p;have A:=af (t.trans f);have X3:=af (X2.kb f i);have A3:=af (A2.kb f n);have C:=af l;clear t X2 A2 u f l p;have q:=af ((X3.set_other (c:=w1.heap.size) (o:=1) (.int .i64 v) k).store y v d h mi s);obtain⟨⟨c0,c1,c2,c3,c4,H⟩,⟨f0,f1,f2,f3,f4,f5⟩,x⟩:=ae X3;obtain⟨⟨a0,a1,a2,a3,a4,a5⟩,⟨g0,g1,g2,g3,g4,g5⟩,z⟩:=ae A3;clear X3 A3;go_wp2;obtain⟨⟨z0,z1,z2,z3,z4,z5⟩,_,_⟩:=ae q;refine a0x (v:=.agg #[y,v,d,h,mi,s]) (by simp[results,a3c,go_sem,z0,z1,z2,z3,z4,z5]) rfl ⟨y,v,d,h,mi,s,rfl,?_,?_,?_⟩
     . obtain⟨_,_,_,_,_,_,_⟩:=ae F;have:=ae j;simp at this;refine⟨?_,?_,?_,?_,?_,?_⟩<;>omega
     . exact tr (lQ (C.mono (by omega)) _ (a0h a g)) (ae a) _ _ _ _ _ _
     . exact sZ (lN A _ g a) (a0a _) (ae a) _ _ _ _ _ _
    .
     skip
     have X3:=X2;have q:=af (X2.store y mo d h mi s);obtain⟨⟨c0,c1,c2,c3,c4,H⟩,⟨f0,f1,f2,f3,f4,f5⟩,x⟩:=ae X2;obtain⟨⟨a0,a1,a2,a3,a4,a5⟩,⟨g0,g1,g2,g3,g4,g5⟩,z⟩:=ae A2;clear X2 A2 X3;go_wp2;obtain⟨⟨z0,z1,z2,z3,z4,z5⟩,_,_⟩:=ae q;refine a0x (v:=.agg #[y,mo,d,h,mi,s]) (by simp[results,a3c,go_sem,z0,z1,z2,z3,z4,z5]) rfl ⟨y,mo,d,h,mi,s,rfl,F,?_,?_⟩
     . exact tr (u.mono (by omega)) (ae a) _ _ _ _ _ _
     . exact sZ (ae t) (a0a _) (ae a) _ _ _ _ _ _
end Go.Proofs.YtfannoajibacnaaGreatDoor
set_option maxHeartbeats 3200000
namespace Go.Proofs.YtfannoajibacnaaGreatDoor
open Go.Proofs.Tryz
open Go.RowKit Corb
variable {b p:Nat}{s:ByteArray}{v0 v1 v2:Value}{w w':World}
attribute [local go_sem ↓] Go.wp_at_zero Go.wp_at_succ
end Go.Proofs.YtfannoajibacnaaGreatDoor
namespace Go.Proofs.YtfannoajibacnaaGreatDoor
open Go.Proofs.Tryz
open Go.RowKit
variable {B G L b g i j k n o:Nat}{a:Option Addr}{f:Nat×Nat}{l:List Int}{m:Nat->Nat}{t t':TypeId}{v vc vl vs y:Value}{w w' w1 x y':World}{xs:List Value}
open Corb
def uQ(B b m:Nat)(w:World)(h:Rd w B b m)(k:m<=80000) :
  Calls prog 84 #[.pointer b] w fun e w'=>(∃s:ByteArray,e = .returned (.string s)/\s.size<=400)/\Rd w' B b (m+60)/\Kn b w w':=by
 go_enter func84,ntmps84;go_wp2_with fail;apply(bY B b m _ _ h (by omega) (by omega) (by omega)).mono;rintro e w1⟨r,rfl,l,n,c,a⟩;by_cases g:r=0
 . subst g;go_wp2_with (go_at_call 127;apply(qf _ _ _ (by omega) (by omega) (by decide)).mono;rintro e w'⟨⟨t,rfl,j⟩,rfl⟩);go_ret;exact⟨⟨t,rfl,by rw[j];decide⟩,c.mono (by omega),a.kn⟩
 .
  have g0:(r == 0)=false:=by simpa using g
  clear g;go_wp2_with (go_at_call 125;apply(rq B b (m+1) _ c (by omega)).mono;rintro e w2⟨⟨s,rfl,i⟩,f,d⟩);go_ret;exact⟨⟨s,rfl,i⟩,f.mono (by omega),a.kn.trans d⟩
section
variable {α : Type} {f : α → List Value} {c : Nat}
variable {T : TypeId}
end
end Go.Proofs.YtfannoajibacnaaGreatDoor
set_option maxHeartbeats 4000000
namespace Go.Proofs.YtfannoajibacnaaGreatDoor
open Go.Proofs.Tryz
open Go.RowKit
variable {B b c o:Nat}{W w w':World}{d h mi mo s y:Int}{n t:ByteArray}{vs:List Value}{x0 x1 x2 x3 x4 x5 x6:Value}
def Ent.set_other(k:Ent w b n y mo d h mi s t)(v:Value)(j:b≠c):Ent (w.setCell ⟨c,o,none⟩ v) b n y mo d h mi s t:=by
 have e:(w.setCell ⟨c,o,none⟩ v).heap[b]?=w.heap[b]?:=a0M w ⟨c,o,none⟩ v b j;obtain⟨⟨c0,c1,c2,c3,c4,f,g,i⟩,⟨f0,f1,f2,f3,f4,f5,f6,f7⟩,a⟩:=k;refine⟨⟨?_,?_,?_,?_,?_,?_,?_,?_⟩,⟨?_,?_,?_,?_,?_,?_,?_,?_⟩,by simpa using a⟩
 . exact(World.cell?_of_block (w:=w) e).trans c0
 . exact(World.cell?_of_block (w:=w) e).trans c1
 . exact(World.cell?_of_block (w:=w) e).trans c2
 . exact(World.cell?_of_block (w:=w) e).trans c3
 . exact(World.cell?_of_block (w:=w) e).trans c4
 . exact(World.cell?_of_block (w:=w) e).trans f
 . exact(World.cell?_of_block (w:=w) e).trans g
 . exact(World.cell?_of_block (w:=w) e).trans i
 . exact(World.frozen?_of_block (w:=w) e).trans f0
 . exact(World.frozen?_of_block (w:=w) e).trans f1
 . exact(World.frozen?_of_block (w:=w) e).trans f2
 . exact(World.frozen?_of_block (w:=w) e).trans f3
 . exact(World.frozen?_of_block (w:=w) e).trans f4
 . exact(World.frozen?_of_block (w:=w) e).trans f5
 . exact(World.frozen?_of_block (w:=w) e).trans f6
 . exact(World.frozen?_of_block (w:=w) e).trans f7
def td(B b m:Nat)(w:World)(h:Rd w B b m)(Z:m<=60000) :
  Calls prog 45 #[.pointer b] w fun e w'=>∃n y mo d h mi s t,e = .returned (.agg #[.string n,.int .i64 y,.int .i64 mo,.int .i64 d,.int .i64 h,.int .i64 mi,.int .i64 s,.string t])/\(n∈pg++gn/\t.size<=400)/\Rd w' B b (m+120)/\Kn b w w':=by
 have C:=h.lt;have V:=af (gV w (.cells () 26) C);have X0:=af (kA w ⟨#[]⟩ 0 0 0 0 0 0 ⟨#[]⟩ 26);have X:=af (h.alloc (.cells () 26));have j:=af (show w.heap.size≠b by omega);have a:=af C;have E:=af Z;clear h C Z;go_enter func45,ntmps45;go_wp2_with fail;refine(pH B b m _ X (by have:=ae E;omega)).mono ?_;rintro e w1⟨n,y,mo,d,h,mi,s,t,rfl,⟨hn,ht⟩,L,U⟩;have M:Hid (n∈pg++gn):=a03.2 (.inr hn);have N:=af ht;have W:=af (V.trans U);have X1:=af (X0.kn U j);have F:=L.lt;have T:=X1.2.2;have aa:¬ w1.heap.size=w.heap.size:=by omega
 have g:¬ w.heap.size=w1.heap.size:=by omega
 have k:=af (show w1.heap.size≠b by omega);have f:=af (show w.heap.size<=w1.heap.size by omega);have A1:=af (kA w1 n y mo d h mi s t 26);have P:=af (gV w1 (.cells #[n,y,mo,d,h,mi,s,t] 26) F);have Y:=af (L.alloc (.cells #[n,y,mo,d,h,mi,s,t] 26));clear V X0 X U L hn ht F T;go_wp2_with fail;refine(bY B b _ 10 _ Y (by have:=ae E;omega) (by omega) (by omega)).mono ?_;rintro e w2⟨r,rfl,r0,L,rr,K⟩;have l:=af ((W.trans P).trans K.kn);have X2:=af ((X1.kn P j).kn K.kn j);have A2:=af (A1.kn K.kn k);have p:=af rr;clear W X1 A1 P Y K rr;by_cases q0:r=0
 .
  subst q0;go_wp2_with fail;refine(oa B b _ _ p (by have:=ae E;omega)).mono ?_;rintro e w3⟨v,G,rfl,q,i⟩;have O:=af G;clear G;have x:=af (l.trans i);have X3:=af (X2.kn i j);have A3:=af (A2.kn i k);have z:=af q;clear l X2 A2 p i q;have u:=af (Ent.store (X3.set_other (c:=w1.heap.size) (o:=0) (.string v) g) v y mo d h mi s t);obtain⟨⟨c0,c1,c2,c3,c4,Q,R,S⟩,⟨f0,f1,f2,f3,f4,f5,f6,f7⟩,A⟩:=ae X3;obtain⟨⟨a0,a1,a2,a3,a4,a5,a6,a7⟩,⟨g0,g1,g2,g3,g4,g5,g6,g7⟩,D⟩:=ae A3;clear X3 A3;go_wp2;obtain⟨⟨z0,z1,z2,z3,z4,z5,z6,z7⟩,_,_⟩:=ae u;refine a0x (v:=.agg #[v,y,mo,d,h,mi,s,t]) (by simp[results,a34,go_sem,z0,z1,z2,z3,z4,z5,z6,z7]) rfl ⟨v,y,mo,d,h,mi,s,t,rfl,⟨O,N⟩,?_,?_⟩
  . exact ov (eE (z.mono (by omega)) _ (a0h a f)) (ae a) _ _ _ _ _ _ _ _
  . exact nY (gE x _ f a) (a0a _) (ae a) _ _ _ _ _ _ _ _
 .
  skip
  by_cases q1:r=1
  .
   subst q1;go_wp2_with fail;refine(uP B b _ _ p (by have:=ae E;omega)).mono ?_;rintro e w3⟨y',mo',I,J,mi',s',rfl,ds,q,H⟩;have i:=rn H;clear ds H;have x:=af (l.trans i);have X3:=af (X2.kn i j);have A3:=af (A2.kn i k);have z:=af q;clear l X2 A2 p i q;have u:=af (Ent.store ((((((X3.set_other (c:=w1.heap.size) (o:=1) (.int .i64 y') g).set_other (c:=w1.heap.size) (o:=2) (.int .i64 mo') g).set_other (c:=w1.heap.size) (o:=3) (.int .i64 I) g).set_other (c:=w1.heap.size) (o:=4) (.int .i64 J) g).set_other (c:=w1.heap.size) (o:=5) (.int .i64 mi') g).set_other (c:=w1.heap.size) (o:=6) (.int .i64 s') g) n y' mo' I J mi' s' t);obtain⟨⟨c0,c1,c2,c3,c4,Q,R,S⟩,⟨f0,f1,f2,f3,f4,f5,f6,f7⟩,A⟩:=ae X3;obtain⟨⟨a0,a1,a2,a3,a4,a5,a6,a7⟩,⟨g0,g1,g2,g3,g4,g5,g6,g7⟩,D⟩:=ae A3;clear X3 A3;go_wp2;obtain⟨⟨z0,z1,z2,z3,z4,z5,z6,z7⟩,_,_⟩:=ae u;refine a0x (v:=.agg #[n,y',mo',I,J,mi',s',t]) (by simp[results,a34,go_sem,z0,z1,z2,z3,z4,z5,z6,z7]) rfl ⟨n,y',mo',I,J,mi',s',t,rfl,⟨M,N⟩,?_,?_⟩
   . exact ov (eE (eE (eE (eE (eE (eE (z.mono (by omega)) _ (a0h a f)) _ (a0h a f)) _ (a0h a f)) _ (a0h a f)) _ (a0h a f)) _ (a0h a f)) (ae a) _ _ _ _ _ _ _ _
   . exact nY (gE (gE (gE (gE (gE (gE x _ f a) _ f a) _ f a) _ f a) _ f a) _ f a) (a0a _) (ae a) _ _ _ _ _ _ _ _
  .
   skip
   by_cases q2:r=2
   .
    subst q2;go_wp2_with fail;refine(uQ B b _ _ p (by have:=ae E;omega)).mono ?_;rintro e w3⟨⟨v,rfl,G⟩,q,i⟩;have O:=af G;clear G;have x:=af (l.trans i);have X3:=af (X2.kn i j);have A3:=af (A2.kn i k);have z:=af q;clear l X2 A2 p i q;have u:=af (Ent.store (X3.set_other (c:=w1.heap.size) (o:=7) (.string v) g) n y mo d h mi s v);obtain⟨⟨c0,c1,c2,c3,c4,Q,R,S⟩,⟨f0,f1,f2,f3,f4,f5,f6,f7⟩,A⟩:=ae X3;obtain⟨⟨a0,a1,a2,a3,a4,a5,a6,a7⟩,⟨g0,g1,g2,g3,g4,g5,g6,g7⟩,D⟩:=ae A3;clear X3 A3;go_wp2;obtain⟨⟨z0,z1,z2,z3,z4,z5,z6,z7⟩,_,_⟩:=ae u;refine a0x (v:=.agg #[n,y,mo,d,h,mi,s,v]) (by simp[results,a34,go_sem,z0,z1,z2,z3,z4,z5,z6,z7]) rfl ⟨n,y,mo,d,h,mi,s,v,rfl,⟨M,O⟩,?_,?_⟩
    . exact ov (eE (z.mono (by omega)) _ (a0h a f)) (ae a) _ _ _ _ _ _ _ _
    . exact nY (gE x _ f a) (a0a _) (ae a) _ _ _ _ _ _ _ _
   .
    skip
    have x:=l;have X3:=X2;have A3:=A2;have z:=p;clear l X2 A2 p;have u:=af (Ent.store X3 n y mo d h mi s t);obtain⟨⟨c0,c1,c2,c3,c4,Q,R,S⟩,⟨f0,f1,f2,f3,f4,f5,f6,f7⟩,A⟩:=ae X3;obtain⟨⟨a0,a1,a2,a3,a4,a5,a6,a7⟩,⟨g0,g1,g2,g3,g4,g5,g6,g7⟩,D⟩:=ae A3;clear X3 A3;go_wp2;obtain⟨⟨z0,z1,z2,z3,z4,z5,z6,z7⟩,_,_⟩:=ae u;refine a0x (v:=.agg #[n,y,mo,d,h,mi,s,t]) (by simp[results,a34,go_sem,z0,z1,z2,z3,z4,z5,z6,z7]) rfl ⟨n,y,mo,d,h,mi,s,t,rfl,⟨M,N⟩,?_,?_⟩
    . exact ov (z.mono (by omega)) (ae a) _ _ _ _ _ _ _ _
    . exact nY (ae x) (a0a _) (ae a) _ _ _ _ _ _ _ _
end Go.Proofs.YtfannoajibacnaaGreatDoor
set_option maxHeartbeats 3200000
namespace Go.Proofs.YtfannoajibacnaaGreatDoor
open Go.Proofs.Tryz
open Go.RowKit Corb
variable {b:Nat}{w w':World}
def Nn{g:Nat}{vs:List Value}(h:Blk w g vs)(a:Kn b w w')(hb:g≠b):Blk w' g vs:=by
 have e:=a.2.1 g h.1 hb;exact⟨a0h h.1 a.2.2,fun i x ex=>⟨(World.cell?_of_block (w:=w) e).trans (h.2 i x ex).1,(World.frozen?_of_block (w:=w) e).trans (h.2 i x ex).2⟩⟩
def nJ(a:Option Addr)(len cap:Nat)(z:Nat->Int)(w:World)(h:Src w a len z)(U:len<=cap)(V:len<=maxLen) :
  Calls prog 16 #[.slice a len cap] w fun e w'=>(∃(s:ByteArray) (en:En),e = .returned (.tuple #[s,.agg en])/\s.size<=9100/\en.n.size<=100/\en.t.size<=400)/\Below w.heap.size w w':=by
 have r:=af ((a0c w.heap.size w).alloc (a0a _) (.cells () 26));have I:=af (ay w () 26);have O:=af (h.later r);clear h;go_enter func16,ntmps16;go_wp2_with fail;refine(wE a len cap z _ O U V).mono ?_;rintro e w1⟨rfl,i,c,A⟩;have f:(w.alloc (.cells () 26)).heap.size=w.heap.size+1:=by simp
 have J:=af (I.later c (by simp));have F:=af (r.trans (c.mono (by simp)));rw[f]at i;try rw[f]
 have x:=af (show w.heap.size≠w.heap.size+1 by omega);clear c A r I O f;obtain⟨b,hb⟩:∃b,w.heap.size+1=b:=⟨_,rfl⟩;rw[hb]at i x;try rw[hb]
 have g:Hid (w.heap.size<b):=by show _<_;omega
 clear hb;go_wp2_with fail;refine(wD _ b 0 _ i (by omega)).mono ?_;rintro e w2⟨⟨l1,B,rfl⟩,j,C⟩;have K:=af (Nn J C x);have G:=af (F.trans (C.1.mono (a0s g)));have T:=kX l1;clear i C J F B;generalize dC l1=S1 at *;go_wp2_with fail;refine(ub _ b _ S1 _ j (by omega) (by omega)).mono ?_;rintro e w3⟨⟨t,rfl,P⟩,k,D⟩;have L:=af (K.later D g);have H:=af (G.trans (D.mono (a0s g)));have R:=af P;clear j D K G T P;go_wp2_with fail;refine(td _ b _ _ k (by omega)).mono ?_;rintro e w4⟨n,y,mo,d,h,mi,s,tt,rfl,⟨N,q⟩,p,E⟩;have m:=af (Nn L E x);have Q:=af (H.trans (E.1.mono (a0s g)));have l:=af (a0b (vn N) q);clear k E L H p N q;have S:=af (Blk.set8 m (.string n) (.int .i64 y) (.int .i64 mo) (.int .i64 d) (.int .i64 h) (.int .i64 mi) (.int .i64 s) (.string tt));have u:=af (ai (o:=7) (ai (o:=6) (ai (o:=5) (ai (o:=4) (ai (o:=3) (ai (o:=2) (ai (o:=1) (ai (o:=0) Q (a0a _) (.string n)) (a0a _) (.int .i64 y)) (a0a _) (.int .i64 mo)) (a0a _) (.int .i64 d)) (a0a _) (.int .i64 h)) (a0a _) (.int .i64 mi)) (a0a _) (.int .i64 s)) (a0a _) (.string tt));have W:=m.cells (n:=8) rfl;have f5:=m.frees (n:=8) rfl;have M:=m.1;clear m;go_wp2;have zc:=S.cells (n:=8) rfl;have z0:=zc 0 (by decide);have z1:=zc 1 (by decide);have z2:=zc 2 (by decide);have z3:=zc 3 (by decide);have z4:=zc 4 (by decide);have z5:=zc 5 (by decide);have z6:=zc 6 (by decide);have z7:=zc 7 (by decide);simp only[List.getElem?_cons_zero,List.getElem?_cons_succ]at z0 z1 z2 z3 z4 z5 z6 z7;exact a0x (v:=.tuple #[t,.agg #[n,y,mo,d,h,mi,s,tt]]) (by simp[results,results16,go_sem,z0,z1,z2,z3,z4,z5,z6,z7]) rfl ⟨⟨t,⟨n,y,mo,d,h,mi,s,tt⟩,rfl,R,l.1,l.2⟩,u⟩
end Go.Proofs.YtfannoajibacnaaGreatDoor
set_option maxHeartbeats 3200000
namespace Go.Proofs.YtfannoajibacnaaGreatDoor
open Go.Proofs.Tryz
open Go.RowKit Corb
variable {b p:Nat}{s:ByteArray}{v0 v1 v2:Value}{w w':World}
attribute [local go_sem ↓] Go.wp_at_zero Go.wp_at_succ
end Go.Proofs.YtfannoajibacnaaGreatDoor
namespace Go.Proofs.YtfannoajibacnaaGreatDoor
open Go.Proofs.Tryz
open Go.RowKit
variable {B G L b g i j k n o:Nat}{a:Option Addr}{f:Nat×Nat}{l:List Int}{m:Nat->Nat}{t t':TypeId}{v vc vl vs y:Value}{w w' w1 x y':World}{xs:List Value}
open Corb
section
variable {α : Type} {f : α → List Value} {c : Nat}
def N8(a:∀x,(f x).length=c)(l:List α)(j:Nat)(x:α)(e:j<l.length):BQ (l.flatMap f) (j*c) (f x)=(l.set j x).flatMap f:=by
 have b:j*c+c<=l.length*c:=by
  have:(j+1)*c<=l.length*c:=a2f c e;rw[a1y,a2P]at this;exact this
 rw[BR _ _ _ (by rw[dm a,a];exact b)];have g:l=l.take j++l[j] :: l.drop (j+1):=by rw[List.getElem_cons_drop,a1z]
 have h:l.set j x=l.take j++x :: l.drop (j+1):=by rw[List.set_eq_take_append_cons_drop,a0d e]
 have d:(List.flatMap f (l.take j)).length=j*c:=by rw[dm a,a0u,a1r (by omega)]
 rw[h]
 conv=>lhs;rw[g]
 simp only[a1B,a0W];rw[a1n (by omega),a0t (by omega)];rw[←a0I,a2Q,a2R (by simp only[a0i,d,a];omega)];simp only[a0i,d,a,a3i,a1L,a1a,a0I]
variable {T : TypeId}
def bj.put(a:∀x,(f x).length=c){w:World}{base g cap n:Nat}{l:List α}(d:l.length=n)(h:bj T c f w base (.slice g n cap) l)(j:Nat)(b:j<n)(x:α) :
  bj T c f (setMany w g (j*c) (f x)) base (.slice g n cap) (l.set j x):=by
 subst d;have:=om (f x) (j*c) h;rw[N8 a l j x b]at this;show World.ownsRow _ _ _ _ _ (l.set j x).length _;rw[a00];exact this
end
end Go.Proofs.YtfannoajibacnaaGreatDoor
set_option maxHeartbeats 3200000
namespace Go.Proofs.YtfannoajibacnaaGreatDoor
open Go.Proofs.Tryz
open Go.RowKit
variable {T T':List UInt8}{V g n p q sz:Nat}{w:World}
def oR{base cap:Nat}{l:List En}(b:l.length=n)(h:cO w base (.slice g n cap) l)(i:Nat)(a:i<n) :
  w.frozen? ⟨g,i*8,none⟩=false/\w.frozen? ⟨g,i*8+1,none⟩=false/\w.frozen? ⟨g,i*8+2,none⟩=false/\w.frozen? ⟨g,i*8+3,none⟩=false/\w.frozen? ⟨g,i*8+4,none⟩=false/\w.frozen? ⟨g,i*8+5,none⟩=false/\w.frozen? ⟨g,i*8+6,none⟩=false/\w.frozen? ⟨g,i*8+7,none⟩=false:=
 ⟨(bj.at bf default b h i 0 a (by omega)).2,(bj.at bf default b h i 1 a (by omega)).2,(bj.at bf default b h i 2 a (by omega)).2,(bj.at bf default b h i 3 a (by omega)).2,(bj.at bf default b h i 4 a (by omega)).2,(bj.at bf default b h i 5 a (by omega)).2,(bj.at bf default b h i 6 a (by omega)).2,(bj.at bf default b h i 7 a (by omega)).2⟩
open Corb
end Go.Proofs.YtfannoajibacnaaGreatDoor
set_option maxHeartbeats 12800000
namespace Go.Proofs.YtfannoajibacnaaGreatDoor
open Go.Proofs.Tryz
open Corb
variable {T c s x y:ByteArray}{b i k m:Nat}{u:List UInt8}{w w':World}
open Go.RowKit
def sf: ((cV s).getD []).length<=6:=by
 cases h:cV s with
 | none=>simp
 | some l=>
  obtain⟨_,q,_,rfl,a,_⟩:=pt h;exact(ct a).2
def Gr(a b:List UInt8):cb a b=cb b a:=by
 unfold cb;rw[Bool.or_comm (gr b a)]
 congr 1
 rw[a2h];simp only[a2A];exact⟨Eq.symm,Eq.symm⟩
def oW{e f:En}(h:goes e f):goes f e:=by
 unfold goes at *;rw[Gr];exact h
def tw{l:List En}(a:k<l.length)(e:En):l.set k e=l.take k++e :: l.drop (k+1):=by rw[List.set_eq_take_append_cons_drop,a0d a]
def vy{l:List En}{e:En}(h:bi l=true)(d:k<l.length)(i:fi e=true)(c:fI (l.eraseIdx k) e.n=false):bi (l.set k e)=true:=by
 have b:=(qF _).1 (pw h k);have g:=((qF l).1 h).2.2;rw[a2T]at b c;have c:=(Gb _ _).1 c;refine(qF _).2 ⟨fun f a=>?_,?_,by rw[a00];exact g⟩
 .
  rw[tw d]at a;simp only[a03,a02]at a;rcases a with a|rfl|a
  . exact b.1 f (a03.2 (.inl a))
  . exact i
  . exact b.1 f (a03.2 (.inr a))
 . rw[tw d,List.pairwise_middle (fun h=>oW h),a3Z];exact⟨fun f a=>oW (c f a),b.2.1⟩
def qN{l:List En}(h:atN l x=(k:Int)):k<l.length/\(l.getD k default).n.data.toList=x.data.toList:=by
 unfold atN at h
 split at h
 .
  rename_i q hq;obtain rfl:q=k:=by omega
  rw[List.findIdx?_eq_some_iff_getElem]at hq;obtain⟨a,h2,_⟩:=hq;exact⟨a,by simpa[List.getD,a]using h2⟩
 . omega
def vE{l:List En}(h:bi l=true)(b:atN l x=(k:Int)):fI (l.eraseIdx k) x=false:=by
 obtain⟨a,d⟩:=qN b;have h2:=((qF l).1 h).2.1;have e:l=l.take k++l.getD k default :: l.drop (k+1):=by
  have:=tw a (l.getD k default);rw[←this];refine(List.ext_getElem? fun i=>?_);rw[List.getElem?_set]
  split
  . rename_i hi;subst hi;simp[List.getD,a]
  . rfl
 rw[e,List.pairwise_middle (fun h=>oW h),a3Z]at h2;rw[a2T];refine(Gb _ _).2 fun f c=>?_;have:=oW (h2.1 f c);unfold goes at this;rw[d]at this;exact this
def Ap{l:List En}(h:¬ atN l x<0):∃k:Nat,atN l x=(k:Int)/\(atN l x).toNat=k/\k<l.length:=by
 rcases su l x with a|⟨k,b,a⟩
 . omega
 . exact⟨k,a,by omega,b⟩
def mT(s:ByteArray)(b:Bool)(w:World) :
  Calls prog 26 #[s,.bool b] w fun e w'=>e = .returned (.string (if b then s else⟨#[]⟩))/\w'=w:=by
 cases b
 all_goals
  go_enter func26,ntmps26;go_wp2;go_ret;exact⟨rfl,rfl⟩
end Go.Proofs.YtfannoajibacnaaGreatDoor
set_option maxHeartbeats 6400000
namespace Go.Proofs.YtfannoajibacnaaGreatDoor
open Go.Proofs.Tryz
open Corb
variable {k:Nat}{x:ByteArray}
def at_eq{l:List En}(h:atN l x=(k:Int)):(l.getD k default).n=x:=ck (qN h).2
def Tl{l:List En}(h:bi l=true){j:Nat}(a:atN l x=(k:Int))(b:j<l.length):(l.getD j default).n=x<->j=k:=by
 constructor
 . intro e;have:=I0 h b;rw[e,a]at this;omega
 . intro e;subst e;exact at_eq a
def ri{l:List En}{j:Nat}(e:En)(a:k<l.length):(l.set k e).getD j default=if j=k then e else l.getD j default:=by
 simp only[List.getD,List.getElem?_set];by_cases h:k=j
 . subst h;simp[a]
 . rw[a0e h,a0e (fun e=>h e.symm)]
def Ff{l:List En}(a:k<l.length)(e:En):(l.set k e).set k (l.getD k default)=l:=by
 rw[List.set_set];refine(List.ext_getElem? fun j=>?_);rw[List.getElem?_set]
 split
 . rename_i hj;subst hj;simp[List.getD,a]
 . rfl
open Go.RowKit
end Go.Proofs.YtfannoajibacnaaGreatDoor
set_option maxHeartbeats 12800000
namespace Go.Proofs.YtfannoajibacnaaGreatDoor
open Go.Proofs.Tryz
open Corb
variable {T c s x y:ByteArray}{b i k m:Nat}{u:List UInt8}{w w':World}
open Go.RowKit
def dz(e:En)(l:List En):Int×List En:=if fi e then(if atN l e.n<0 then(2,[])else(0,l.set (atN l e.n).toNat e))else(1,[])
def JI{e:En}{l:List En}(h:bi l=true)(a:(dz e l).1=0):bi (dz e l).2=true:=by
 unfold dz at a ⊢
 split
 .
  rename_i he;rw[a0d he]at a
  split
  . rename_i hc;rw[a0d hc]at a;cases a
  . rename_i hc;obtain⟨k,b,h2,c⟩:=Ap hc;rw[h2];exact vy h c he (vE h b)
 . rename_i he;rw[a0e he]at a;cases a
def uX(s:ByteArray)(e:En)(w:World)(hs:s.size<=1048576)(he:e.n.size<=1048576)(ht:(e.t.size:Int)<=9223372036854775807) :
  Calls prog 8 #[s,.agg e] w fun f w'=>f = .returned (edR s (dz e))/\Below w.heap.size w w':=by
 have Q:=af ((a0c w.heap.size w).alloc (a0a _) (.cells e 26));have P:=af (ay w e 26);have C:=af (fun W=>kQ s W hs);have Y:=af (fun W=>ie e.n e.y e.mo e.d e.h e.mi e.s e.t W he ht);have hz:=sf (s:=s);clear hs he ht;go_enter func8,ntmps8;go_wp2_with fail;refine(C _).mono ?_;rintro f x1⟨⟨v,rfl,j⟩,D⟩;have j:=j.mono Q.size;have x:=af (aj Q D);have I:=af (P.later D P.1);have ab:w.heap.size<x1.heap.size:=I.1;obtain⟨L,hL⟩:∃l,(cV s).getD []=l:=⟨_,rfl⟩;rw[hL]at j hz;obtain⟨n,hn⟩:∃n,L.length=n:=⟨_,rfl⟩;obtain⟨a,c,rfl,hc,_⟩:=j.formN hn;have ad:(n:Int)<=6:=by omega
 have V:=af (wL a c L n hn e.n x1 (bv hn j) (by omega));have Z:=af hL;have HO:=af j;have H:=af hn;clear D C j hL hc hz Q P;have U:=I.cells (n:=8) rfl;go_wp2_with fail;refine V.mono ?_;rintro f x2⟨rfl,R⟩;subst R;clear V;rcases K:cV s with _|l
 .
  have A:=af (ju K (dz e));clear K;go_wp2_with fail;refine(mT s false _).mono ?_;rintro f x3⟨rfl,S⟩;subst S;go_wp2
  go_ret2
  exact⟨by rw[ae A];rfl,x⟩
 .
  obtain rfl:l=L:=by have:=ae Z;rw[K]at this;exact this
  have M:=af K;clear K Z;go_wp2_with fail;refine(Y _).mono ?_;rintro f x3⟨rfl,p⟩;have z:=af (aj x p);have m:=af (HO.later p (a0a _));have P3:=af (I.later p I.1);clear Y p U I HO x;obtain⟨E,hE⟩:∃b,gQ e.n e.y e.mo e.d e.h e.mi e.s e.t=b:=⟨_,rfl⟩;have B:Hid (fi e=E):=hE;rw[hE];clear hE;cases E
  .
   have A:=af (lj (d:=dz e) (c:=1) (r:=[]) M (by unfold dz;rw[a0e (by rw[ae B];decide)]) (by decide));go_wp2_with fail;refine(mT s true _).mono ?_;rintro f x4⟨rfl,T⟩;subst T;go_wp2
   go_ret2
   exact⟨by rw[ae A];rfl,z⟩
  .
   rcases su l e.n with h|⟨k,hk,h⟩
   .
    have A:=af (lj (d:=dz e) (c:=2) (r:=[]) M (by unfold dz;rw[a0d (ae B),a0d (by omega)]) (by decide));rw[h];clear h;go_wp2
    go_ret2
    exact⟨by rw[ae A];rfl,z⟩
   .
    have hd:dz e l=(0,l.set k e):=by unfold dz;rw[a0d (ae B),a0e (by omega),h,a0n]
    have A:=af (iY M hd);have q:=JI (e:=e) (eG M) (by rw[hd]);rw[hd]at q;rw[h];have F:k<n:=by have:=ae H;omega
    have ac:(k:Int)<(n:Int):=(by omega);obtain⟨g,rfl⟩:=m.somes (by omega);have o:(l.set k e).length=n:=by rw[a00];exact H
    obtain⟨d0,d1,d2,d3,d4,d5,d6,d7⟩:=kj H m k F;obtain⟨f0,f1,f2,f3,f4,f5,f6,f7⟩:=oR H m k F;have u:=bj.put bf H m k F e;have hB:=kI z m.below.1 (bu e) (k*8);have G:=af hB;have X:=af (pd (some ⟨g,0,none⟩) c n (l.set k e) _ o (bv o u) (by omega) (fun i hi=>lI q (by omega)));have O:=af (vw q o);have aa:g<x3.heap.size:=m.below.2;clear h hk u hB hd q;generalize l.getD k default=y0 at *;have U:=P3.cells (n:=8) rfl;go_wp2_with fail;refine X.mono ?_;rintro f x5⟨rfl,J⟩;have N:=af (aj G J);rw[←ae O];clear J G X U;go_wp2
    go_ret2
    exact⟨by rw[ae A];rfl,N⟩
def BW(e:En)(v:Value)(l:List En)(bx b:Nat)(m:Int)(w:World)(h:cO w b v l)(T:bi l=true)(hb:b<=w.heap.size)(I:Blk w bx [.string e.n,.int .i64 e.y,.int .i64 e.mo,.int .i64 e.d,.int .i64 e.h,.int .i64 e.mi,.int .i64 e.s,.string e.t])
  (N:e.n.size<=1048576) (P:(e.t.size:Int)<=9223372036854775807) (O:w.cell? ⟨2,0,none⟩=some (.int .i64 m)) :
  Calls prog 50 #[v,.pointer bx] w (qG b w (dz e l)):=by
 obtain⟨n,hn⟩:∃n,l.length=n:=⟨_,rfl⟩;obtain⟨a,c,rfl,hc,_⟩:=h.formN hn;have S:(n:Int)<=6:=by have:=(ct T).2;omega
 have J:=af (jO e.n e.y e.mo e.d e.h e.mi e.s e.t m w N P O);have M:=af h;have G:=af I;have A:=af hn;have L:=af hb;have D:=I.cells (n:=8) rfl;clear h I O N P hn hb;go_enter func50,ntmps50;go_wp2_with fail;refine J.mono ?_;rintro f x1⟨rfl,p⟩;have j:=af (p.mono L);have u:=af (M.later p (a0a _));have o:=af (G.later p G.1);clear J D p M G;obtain⟨E,hE⟩:∃b,gQ e.n e.y e.mo e.d e.h e.mi e.s e.t=b:=⟨_,rfl⟩;have r:Hid (fi e=E):=hE;rw[hE];clear hE;cases E
 .
  have z:Hid ((dz e l).1=1):=by show _=_;unfold dz;rw[a0e (by rw[ae r];decide)]
  go_wp2
  go_ret2
  exact mF z (by decide) j
 .
  have K:=af (mH a c l n A e.n x1 (bv A u) (by omega));have D:=o.cells (n:=8) rfl;go_wp2_with fail;refine K.mono ?_;rintro f x2⟨rfl,q⟩;have B:=af (j.trans (q.mono (a0E L j.size)));have i:=af (u.later q (a0a _));have H:=af (o.later q o.1);clear K D q u o j;rcases su l e.n with C|⟨k,Q,C⟩
  .
   have z:Hid ((dz e l).1=2):=by show _=_;unfold dz;rw[a0d (ae r),a0d (by omega)]
   rw[vf (by omega)];clear C;go_wp2
   go_ret2
   exact mF z (by decide) B
  .
   have z:Hid (dz e l=(0,l.set k e)):=by show _=_;unfold dz;rw[a0d (ae r),a0e (by omega),C,a0n]
   rw[qZ (by omega),C];have x:k<n:=by have:=ae A;omega
   have R:(k:Int)<(n:Int):=(by omega);obtain⟨g,rfl⟩:=i.somes (by omega);obtain⟨U,V,W,X,Y,Z,d6,d7⟩:=kj A i k x;obtain⟨f0,f1,f2,f3,f4,f5,f6,f7⟩:=oR A i k x;have HP:=af (bj.put bf A i k x e);have F:=af (kI B i.below.1 (bu e) (k*8));have D:=H.cells (n:=8) rfl;clear C Q;generalize l.getD k default=y0 at *;go_wp2
   go_ret2
   refine⟨⟨.slice g n c,?_,⟨_,_,_,rfl⟩,fun _=>?_⟩,F⟩
   . rw[ae z];rfl
   . rw[ae z];exact HP
def BX(s:ByteArray)(d:List En->Int×List En)(bx:Nat)(m:Int)(w:World)(R:s.size<=1048576)(I:w.cell? ⟨2,0,none⟩=some (.int .i64 m))(M:j9 w)(L:dp w)
  (hd:∀l,bi l=true->(d l).1=0->bi (d l).2=true)
  (X:∀W v l,cV s=some l->Below w.heap.size w W->cO W w.heap.size v l->Calls prog 50 #[v,.pointer bx] W (qG w.heap.size W (d l))) :
  Calls prog 21 #[s,.func (.func 50) #[] #[.pointer bx]] w fun f w'=>f = .returned (edR s d)/\Below w.heap.size w w':=by
 have C:=af (bS s m w R I M L);have Z:=af I;have P:=af (World.block_lt_of_cell? _ _ I);have Y:=af (fun W (hb:Below w.heap.size w W)=>(hb.cell (p:=⟨2,0,none⟩) P).trans Z);have V:=af (fun W (hb:Below w.heap.size w W)=>M.later hb);have J:=af (fun W (hb:Below w.heap.size w W)=>L.later hb);have U:=af X;have Hd:=af hd;have HS:=af R;clear R I M L hd X;go_enter func21,a4c;go_wp2_with fail;refine C.mono ?_;rintro f x1⟨⟨v,rfl,b⟩,h⟩;have B:=af h;clear C;rcases z:cV s with _|l
 .
  have D:=af (ju z d);clear z b h;go_wp2
  go_ret2
  exact⟨by rw[ae D];rfl,B⟩
 .
  rw[z]at b;have CD:=af (ae U x1 v l z h b);have K:=af z;clear z b h U;go_wp2_with fail;refine CD.mono ?_;rintro f x2⟨⟨v2,rfl,⟨a,n,c,rfl⟩,G⟩,E⟩;have o:=af (B.trans E);have A:=af (iy (d l).1 x2 (V _ (ae o)));have H:=af G;clear E G CD;obtain⟨q,hq⟩:∃q,d l=q:=⟨_,rfl⟩;have Hq:=af hq;rw[hq]at A H;rw[hq];clear hq;obtain⟨k,r⟩:=q;simp only at A H;simp only;obtain⟨FV,hFV⟩:∃x,cX k=x:=⟨_,rfl⟩;rw[hFV]at A;rw[hFV];clear hFV;go_wp2_with fail;refine A.mono ?_;rintro f x3⟨rfl,u⟩;have e:=af (aj o u);have j:=af u;clear u A;by_cases O:k=0
  .
   subst O;have y:bi r=true:=by have:=ae Hd l (eG K) (by rw[ae Hq]);rw[ae Hq]at this;exact this
   have Q:cO x2 w.heap.size (.slice a n c) r:=ae H rfl;obtain⟨N,hN⟩:∃n,r.length=n:=⟨_,rfl⟩;obtain⟨a',c',e',aa,_⟩:=Q.formN hN;cases e'
   have F:=Q.later j (a0a _);have h6:=(ct y).2;have T:=af (dM a c r n hN m x3 (bv hN F) (by omega) (by omega) (fun i hi=>dK y i (by omega)) (Y _ (ae e)) (V _ (ae e)) (J _ (ae e)));have D:=af (iY K Hq);clear y Q F h6 H j o;go_wp2_with fail;refine T.mono ?_;rintro f x4⟨rfl,g⟩;have t:=af (aj e g);clear g T;go_wp2
   go_ret2
   exact⟨by rw[ae D];rfl,t⟩
  .
   have D:=af (lj K Hq O);have S:=af (fun W=>jj s W (by have:=ae HS;omega));have hd:decide (k=0)=false:=a0m O;go_wp2_with fail;refine(S _).mono ?_;rintro f x4⟨rfl,g⟩;have t:=af (aj e g);clear g S;go_wp2
   go_ret2
   exact⟨by rw[ae D];rfl,t⟩
def AQ(e:En)(w:World) :
  Calls prog 22 #[.agg e] w fun f w'=>f = .returned (.func (.func 50) #[] #[.pointer w.heap.size])/\w'=w.alloc (.cells e 26):=by
 go_enter func22,ntmps22;go_wp2;go_ret;exact⟨rfl,rfl⟩
def nj(s:ByteArray)(e:En)(m:Int)(w:World)(D:s.size<=1048576)(A:e.n.size<=1048576)(E:(e.t.size:Int)<=9223372036854775807)(q:w.cell? ⟨2,0,none⟩=some (.int .i64 m))(B:j9 w)(x:dp w) :
  Calls prog 7 #[s,.agg e] w fun f w'=>f = .returned (edR s (dz e))/\Below w.heap.size w w':=by
 have j:=af ((a0c w.heap.size w).alloc (a0a _) (.cells e 26));have r:=af (World.block_lt_of_cell? _ _ q);have u:=af (fun W (hb:Below w.heap.size w W)=>(hb.cell (p:=⟨2,0,none⟩) r).trans q);have CD:=af (fun W (hb:Below w.heap.size w W) bx (z:Blk W bx [.string e.n,.int .i64 e.y,.int .i64 e.mo,.int .i64 e.d,.int .i64 e.h,.int .i64 e.mi,.int .i64 e.s,.string e.t])=>
  BX s (dz e) bx m W D (u W hb) (B.later hb) (x.later hb) (fun l h G=>JI h G)
   (fun W2 v l I a H=>BW e v l bx W.heap.size m W2 H (eG I) a.size (z.later a z.1) A E (u W2 (aj hb a))))
 clear D A E q B x;go_enter func7,ntmps7;go_wp2_with fail;refine(AQ e _).mono ?_;rintro f x1⟨rfl,c⟩;have b:Hid (Below w.heap.size w x1):=by show Below _ _ _;rw[c];exact j.alloc j.size _
 have g:=af (ay (w.alloc (.cells e 26)) e 26);rw[←c]at g;rw[show(w.alloc (.cells e 26)).heap.size=w.heap.size+1 by simp]at g;have C:=af (ae CD x1 (ae b) _ (ae g));clear c j g CD;go_wp2_with fail;refine C.mono ?_;rintro f x2⟨rfl,a⟩;have i:=af (aj b a);clear a C b;obtain⟨t,k,o⟩:=ve s (dz e);have F:=af o;rw[o];clear o;go_wp2
 go_ret2
 exact⟨by rw[ae F];rfl,i⟩
end Go.Proofs.YtfannoajibacnaaGreatDoor
set_option maxHeartbeats 3200000
namespace Go.Proofs.YtfannoajibacnaaGreatDoor
open Go.Proofs.Tryz
open Go.RowKit Corb
variable {b:Nat}{w w':World}
def uK(a:Option Addr)(len cap:Nat)(z:Nat->Int)(w:World)(h:Src w a len z)(i:len<=cap)(k:len<=maxLen) :
  Calls prog 6 #[.slice a len cap] w fun e w'=>(∃(s:ByteArray) (en:En),e = .returned (.tuple #[s,.agg en])/\s.size<=9100/\en.n.size<=100/\en.t.size<=400)/\Below w.heap.size w w':=by
 have c:=af ((a0c w.heap.size w).alloc (a0a _) (.cells () 26));have g:=af (ay w () 26);have C:=af (nJ a len cap z _ (h.later c) i k);clear h i k;go_enter func6,ntmps6;go_wp2_with fail;refine C.mono ?_;rintro e w1⟨⟨s,en,rfl,l⟩,hb⟩;have b:=af (g.later hb (by simp));have m:=af (aj c hb);have p:=af l;clear l hb C g c;have q:=af (Blk.set8 b (.string en.n) (.int .i64 en.y) (.int .i64 en.mo) (.int .i64 en.d) (.int .i64 en.h) (.int .i64 en.mi) (.int .i64 en.s) (.string en.t));have f:=af (ai (o:=7) (ai (o:=6) (ai (o:=5) (ai (o:=4) (ai (o:=3) (ai (o:=2) (ai (o:=1) (ai (o:=0) m (a0a _) (.string en.n)) (a0a _) (.int .i64 en.y)) (a0a _) (.int .i64 en.mo)) (a0a _) (.int .i64 en.d)) (a0a _) (.int .i64 en.h)) (a0a _) (.int .i64 en.mi)) (a0a _) (.int .i64 en.s)) (a0a _) (.string en.t));have r:=b.cells (n:=8) rfl;have f5:=b.frees (n:=8) rfl;have j:=b.1;clear b;go_wp2;have zc:=q.cells (n:=8) rfl;have z0:=zc 0 (by decide);have z1:=zc 1 (by decide);have z2:=zc 2 (by decide);have z3:=zc 3 (by decide);have z4:=zc 4 (by decide);have z5:=zc 5 (by decide);have z6:=zc 6 (by decide);have z7:=zc 7 (by decide);simp only[List.getElem?_cons_zero,List.getElem?_cons_succ]at z0 z1 z2 z3 z4 z5 z6 z7;exact a0x (v:=.tuple #[s,.agg en]) (by simp[results,results6,go_sem,z0,z1,z2,z3,z4,z5,z6,z7]) rfl ⟨⟨s,en,rfl,p⟩,f⟩
end Go.Proofs.YtfannoajibacnaaGreatDoor
set_option maxHeartbeats 6400000
namespace Go.Proofs.YtfannoajibacnaaGreatDoor
open Go.Proofs.Tryz
open Corb
variable {k:Nat}{x:ByteArray}
def Mj{l:List En}(h:bi l=true){e:En}(g:fi e=true)(b:atN l e.n=(k:Int)):bi (l.set k e)=true/\edR (dC (l.set k e)) (dz (l.getD k default)) = .tuple #[.string (dC l),.int .i64 0]:=by
 obtain⟨a,_⟩:=qN b;have c:=vy h a g (vE h b);have f:(l.set k e).length=l.length:=a00 ..;have d:=I0 c (i:=k) (by omega);rw[ri e a,a0d rfl]at d;refine⟨c,iY (kY c) ?_⟩;unfold dz;rw[a0d (lI h a),at_eq b,d,a0e (by omega),a0n,Ff a]
open Go.RowKit
def ID{l:List En}{en:En}(h:(dz en l).1=0):fi en=true/\∃k,k<l.length/\atN l en.n=(k:Int)/\dz en l=(0,l.set k en):=by
 unfold dz at h ⊢
 split at h
 .
  rename_i he;refine⟨he,?_⟩;rw[a0d he]
  split at h
  . cases h
  . rename_i hc;obtain⟨k,a,h2,b⟩:=Ap hc;exact⟨k,b,a,by rw[a0e hc,h2]⟩
 . cases h
def Oa(a:Option Addr)(len cap:Nat)(zs:List Int)(m:Int)(w:World)(w0:Ch .u8 w a len cap zs)(hm:w.cell? ⟨2,0,none⟩=some (.int .i64 m))(hg:j9 w)(hO:dp w) :
  Ds 3 #[.slice a len cap] w (.bool true):=by
 have bn:=cE
 obtain⟨⟨z,V⟩,hc,M⟩:=Iw w0;have ba:=af (uK a len cap z w V hc M);have C:=af (fun W (hb:Below w.heap.size w W)=>a0b ((hb.cell (p:=⟨2,0,none⟩) (World.block_lt_of_cell? _ _ hm)).trans hm) (a0b (hg.later hb) (hO.later hb)));unfold maxLen at M;clear w0 V hm hg hO;by_cases hl:(len:Int)<=1048576
 .
  go_enter func3,ntmps3;go_wp2_with fail;refine ba.mono ?_;rintro e w1⟨⟨S,en,rfl,b0,K⟩,bc⟩;have ab:=af bc;clear bc ba M hc;have a0:=af b0;have b:=af K;have CI:=af (fun W (o:Below w.heap.size w W)=>nj S en m W (by have:=ae a0;omega) (by have:=ae b;omega) (by have:=ae b;omega) (C W o).1 (C W o).2.1 (C W o).2.2);have CS:=af (fun W=>uX S en W (by have:=ae a0;omega) (by have:=ae b;omega) (by have:=ae b;omega));clear b0 K;obtain⟨nE,hnE⟩:∃x,w1.heap.size=x:=⟨_,rfl⟩;have q:=af (ab.alloc ab.size (.cells en 26));have E2:=af (ay w1 en 26);rw[hnE]at E2;clear ab;rcases Y:cV S with _|l
  .
   have R:=af (ju Y (dz en));clear Y;rw[ae R]at CI CS;clear R;have G:=E2.cells (n:=8) rfl;go_wp2_with fail;refine(CI _ (ae q)).mono ?_;rintro e w3⟨rfl,f⟩;try rw[hnE]
   clear hnE;generalize w1.alloc (.cells en 26)=w2 at *;have v:=af (aj q f);have E3:=af (E2.later f E2.1);clear f q E2 G;have G:=E3.cells (n:=8) rfl;go_wp2_with fail;refine(CS _).mono ?_;rintro e w4⟨rfl,g⟩;have D:=af (aj v g);have E4:=af (E3.later g E3.1);clear g v E3 G;go_wp2;all_goals
    go_ret;exact⟨rfl,D⟩
  .
   by_cases hk:(dz en l).1=0
   .
    skip
    have H:=eG Y;obtain⟨K,k,L,ha,hd⟩:=ID hk;obtain⟨a8,a4⟩:=Mj H K ha;have R:Hid (edR S (dz en) = .tuple #[.string (dC (l.set k en)),.int .i64 0]):=iY Y hd;have HA:=af (fun j (hj:j<l.length)=>Tl H ha hj);have HZ:=af H;obtain⟨n,hn⟩:∃n,l.length=n:=⟨_,rfl⟩;obtain⟨r,hr⟩:∃r,l.set k en=r:=⟨_,rfl⟩;have HR:Hid (∀j,r.getD j default=if j=k then en else l.getD j default):=fun j=>by rw[←hr];exact ri en L
    have hN:r.length=n:=by rw[←hr,a00];exact hn
    rw[hr]at a8 a4 R;rw[hn]at L HA;have HN:=af hn;have ao:=af hN;have HK:=af L;have bb:Hid (n<=6):=by show _<=_;have:=(ct H).2;omega
    have b6:=kX r;have al:=af (dK H k (by rw[hn];exact L));have a9:=af (fun W (o:Below w.heap.size w W)=>bS S m W (by have:=ae a0;omega) (C W o).1 (C W o).2.1 (C W o).2.2);have aa:=af (fun W (o:Below w.heap.size w W)=>bS (dC r) m W (by omega) (C W o).1 (C W o).2.1 (C W o).2.2);have CB:=af (fun W (o:Below w.heap.size w W)=>nj (dC r) (l.getD k default) m W (by omega) al.1 al.2 (C W o).1 (C W o).2.1 (C W o).2.2);rw[Y]at a9;rw[kY a8]at aa;rw[a4]at CB;obtain⟨X,hX⟩:∃x,dC r=x:=⟨_,rfl⟩;obtain⟨P,hP⟩:∃x,dC l=x:=⟨_,rfl⟩;have HP:=af hP;rw[ae R]at CI CS;rw[hX]at CI CS aa CB;rw[hP]at CB;clear Y hk K L ha hd H a8 a4 hn hN b6 hX hP R hr al;have G:=E2.cells (n:=8) rfl;go_wp2_with fail;refine(CI _ (ae q)).mono ?_;rintro e w3⟨rfl,f⟩;try rw[hnE]
    clear hnE;generalize w1.alloc (.cells en 26)=w2 at *;have v:=af (aj q f);have E3:=af (E2.later f E2.1);clear f q E2 G;have G:=E3.cells (n:=8) rfl;go_wp2_with fail;refine(CS _).mono ?_;rintro e w4⟨rfl,g⟩;have D:=af (aj v g);have E4:=af (E3.later g E3.1);clear g v E3 G;go_wp2_with fail;refine(a9 _ (ae D)).mono ?_;rintro e w5⟨⟨v5,rfl,O⟩,a7⟩;have ac:=af (aj D a7);have E5:=af (E4.later a7 E4.1);have O:cO w5 w4.heap.size v5 l:=O;obtain⟨a5,c5,rfl,b4,_⟩:=O.formN HN;have bk:(n:Int)<=(c5:Int):=(by omega);have O5:=af O;clear O b4 a7 D E4;go_wp2_with fail;refine(aa _ (ae ac)).mono ?_;rintro e w6⟨⟨v6,rfl,Q⟩,U⟩;have I:=af (aj ac U);have E6:=af (E5.later U E5.1);have O6:=af (O5.later U (a0a _));have Q:cO w6 w5.heap.size v6 r:=Q;obtain⟨a6,c6,rfl,_,_⟩:=Q.formN ao;have Q6:=af Q;clear Q U ac E5 O5;obtain⟨g5,rfl⟩:=bj.somes O6 (by rw[ae HN];have:=ae HK;omega);have b8:(n:Int)<=6:=by have:=ae bb;omega
    obtain⟨g6,rfl⟩:=bj.somes Q6 (by rw[ae ao];have:=ae HK;omega);go_wp2_with fail
    go_loopw [13,14,15] (fun i _ _ wr=>∃j:Nat,j<=n/\i = .int .i64 j/\Below w6.heap.size w6 wr) (fun i _ _ _=>n-(intOf i).toNat)
    case atStart=>exact⟨0,a0g _,rfl,a0c _ _⟩
    case round=>
     obtain⟨j,hj,rfl,be⟩:=hrel;have A:=af be;clear be;by_cases F:j<n
     .
      have bl:(j:Int)<(n:Int):=(by omega);have HJ:=af F;have T:=af (fun W o=>kj HN (O6.later (B:=w6.heap.size) (w':=W) o (a0a _)) j F);have J:=af (fun W o=>kj ao (Q6.later (B:=w6.heap.size) (w':=W) o (a0a _)) j F);have b:=af (fun W o=>E6.later (B:=w6.heap.size) (w':=W) o E6.1);rw[ae HR j]at J;have G:=(b _ (ae A)).cells (n:=8) rfl;by_cases E:j=k
      .
       have N:(l.getD j default).n=en.n:=(HA j F).2 E;rw[a0d E]at J;have c0:=(T _ (ae A)).1;rw[N]at c0;have b3:=af E;clear N F hj E;go_wp2_with fail
       go_quiet (fail)
       have u:=af (below_drewN A nq);generalize wr.drewN nq=wq at *;have hq:=ae T _ (ae u);clear c0 G A;have Z:=af (ae CB wq (aj I u));rw[←ae b3]at Z;obtain⟨c0,c1,c2,c3,c4,a2,a3,c7⟩:=hq;go_wp2_with fail;refine Z.mono ?_;rintro e w8⟨rfl,bd⟩;have c:=af (aj u bd);clear bd c0 c1 c2 c3 c4 a2 a3 c7 u Z;obtain⟨d0,d1,d2,d3,d4,d5,d6,d7⟩:=ae J _ (ae c);have r0:=cell_regrown d0;have r1:=cell_regrown d1;have r2:=cell_regrown d2;have r3:=cell_regrown d3;have r4:=cell_regrown d4;have r5:=cell_regrown d5;have r6:=cell_regrown d6;have r7:=cell_regrown d7;have j0:=cell_regrown ((b _ (ae c)).cell 0 _ rfl);have j1:=cell_regrown ((b _ (ae c)).cell 1 _ rfl);have j2:=cell_regrown ((b _ (ae c)).cell 2 _ rfl);have j3:=cell_regrown ((b _ (ae c)).cell 3 _ rfl);have j4:=cell_regrown ((b _ (ae c)).cell 4 _ rfl);have j5:=cell_regrown ((b _ (ae c)).cell 5 _ rfl);have j6:=cell_regrown ((b _ (ae c)).cell 6 _ rfl);have j7:=cell_regrown ((b _ (ae c)).cell 7 _ rfl);have CP:=af (fun W (hb:Below w6.heap.size w6 W)=>dM (some ⟨g5,0,none⟩) c5 l n HN m W ((bv HN O6).later hb) (by have:=ae bb;omega) bk (fun i hi=>dK HZ i (by rw[ae HN];exact hi)) (C W (aj I hb)).1 (C W (aj I hb)).2.1 (C W (aj I hb)).2.2);rw[ae HP]at CP;have cP:=fun d os=>Calls.regrown_of (w:=w8) (d:=d) (os:=os) (CP _ (aj c (below_regrown w8 d os)));clear d0 d1 d2 d3 d4 d5 d6 d7;go_wp2_with fail;refine wp_region_quiet_below bn (by kernel_rfl) ?_;repeat (first|go_big_quiet_step (fail)|go_big_quiet_step (exact cP _ _))
       refine a1w ?_;intro zw b7;obtain⟨⟨dq,osq⟩,b1⟩:=b7;have a1:=below_regrown w8 dq osq;rw[←b1]at a1;have ad:=af (aj c a1);clear b1 a1 r0 r1 r2 r3 r4 r5 r6 r7 j0 j1 j2 j3 j4 j5 j6 j7 cP CP c;go_wp2_with fail;go_roundw
       case rel=>exact⟨j+1,by have:=ae HJ;omega,by go_num,ad⟩
       case measure=>have:=ae HJ;simp[intOf];omega
      .
       have N:¬ (l.getD j default).n=en.n:=fun e=>E ((HA j F).1 e);have bs:¬ (l.getD j default).n.toList=en.n.toList:=fun e=>N (ck (dt.1 e));have b5:((l.getD j default).n.toList == en.n.toList)=false:=by simp only[a0X,ne_eq];exact bs
       rw[a0e E]at J;have c0:=(T _ (ae A)).1;clear N F hj E;generalize l.getD j default=ej at *;go_wp2_with fail
       go_quiet (fail)
       have u:=af (below_drewN A nq);generalize wr.drewN nq=wq at *;clear c0 G A bs b5;obtain⟨c0,c1,c2,c3,c4,a2,a3,c7⟩:=ae T _ (ae u);obtain⟨d0,d1,d2,d3,d4,d5,d6,d7⟩:=ae J _ (ae u);go_wp2_with fail
       go_quiet (fail)
       have ad:=af (below_drewN u nq);generalize wq.drewN nq=wz at *;clear c0 c1 c2 c3 c4 a2 a3 c7 d0 d1 d2 d3 d4 d5 d6 d7 u;go_wp2_with fail;go_roundw
       case rel=>exact⟨j+1,by have:=ae HJ;omega,by go_num,ad⟩
       case measure=>have:=ae HJ;simp[intOf];omega
     .
      have bl:¬ (j:Int)<(n:Int):=(by omega);have b2:=af (aj I A);go_wp2;go_ret;exact⟨rfl,b2⟩
   .
    have R:Hid (edR S (dz en) = .tuple #[S,.int .i64 (dz en l).1]):=lj (r:=(dz en l).2) Y rfl hk;obtain⟨k,hkk⟩:∃k,(dz en l).1=k:=⟨_,rfl⟩;rw[hkk]at R hk;clear hkk Y;rw[ae R]at CI CS;clear R;have G:=E2.cells (n:=8) rfl;go_wp2_with fail;refine(CI _ (ae q)).mono ?_;rintro e w3⟨rfl,f⟩;try rw[hnE]
    clear hnE;generalize w1.alloc (.cells en 26)=w2 at *;have v:=af (aj q f);have E3:=af (E2.later f E2.1);clear f q E2 G;have G:=E3.cells (n:=8) rfl;go_wp2_with fail;refine(CS _).mono ?_;rintro e w4⟨rfl,g⟩;have D:=af (aj v g);have E4:=af (E3.later g E3.1);clear g v E3 G;go_wp2;all_goals
     go_ret;exact⟨rfl,D⟩
 . go_enter func3,ntmps3;go_wp2;go_ret;exact⟨rfl,a0c _ _⟩
end Go.Proofs.YtfannoajibacnaaGreatDoor
