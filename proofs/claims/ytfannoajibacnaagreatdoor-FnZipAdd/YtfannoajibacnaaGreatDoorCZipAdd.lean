/- Texts. -/
import Derived.Test.YtfannoajibacnaaGreatDoorM47
import Derived.OpenShut
import Derived.Deep.RegionHeld3
import Derived.Deep.DrawnRows
import Derived.Lib.AppendZerosOnto
set_option linter.all false
set_option maxRecDepth 100000
set_option maxHeartbeats 12800000
namespace Go.Proofs.YtfannoajibacnaaGreatDoor
open Go.Proofs.Tryz
open Go.RowKit Corb
def zF0:=@World.frozen?_of_block
def zC0:=@World.cell?_of_block
def zB0:=@World.block_lt_of_cell?
def zR0:=@cell_regrown
section
variable {b c g k n:Nat}{x y:ByteArray}
def p6(l:List En)(k:Nat):l.flatMap bu=(l.take k).flatMap bu++(l.drop k).flatMap bu:=by rw[←a1B,a1z]
def take_len{l:List En}(b:l.length=n)(a:k<=n):((l.take k).flatMap bu).length=k*8:=by rw[dm bf,a0u];omega
def nK{l:List En}(a:l.length=n):((l.drop k).flatMap bu).length=(n-k)*8:=by rw[dm bf,a04,a]
def ET{W:World}{l:List En}(d:l.length=n)(h:cO W b (.slice g n c) l)(k:Nat):∀j u,((l.take k).flatMap bu)[j]?=some u->W.cell? ((⟨g,0,none⟩:Addr).add j)=some u:=fun j u a=>by
 refine a1F (bj.own d h) rfl j u ?_;rw[p6 l k,List.getElem?_append_left (List.getElem?_eq_some_iff.1 a).1];exact a
def Px{W:World}{l:List En}(a:l.length=n)(h:cO W b (.slice g n c) l)(k:Nat)(d:k<=n):∀j u,((l.drop k).flatMap bu)[j]?=some u->W.cell? ((⟨g,k*8,none⟩:Addr).add j)=some u:=fun j u e=>by
 have:=a1F (bj.own a h) rfl (k*8+j) u (by
  rw[p6 l k,List.getElem?_append_right (by rw[take_len a d];omega),take_len a d,a1t];exact e)
 rw[Addr.add_lit]at this ⊢;rw[a0G]at this;exact this
def xF{l:List En}(d:l.length=n)(m:n<=c)(k:Nat)(f:k<n):∃A:Addr,(if c=k+1 then some (⟨g,0,none⟩:Addr)else some ⟨g,(k+1)*8,none⟩)=some A/\Hid (∀W,cO W b (.slice g n c) l->∀j u,((l.drop (k+1)).flatMap bu)[j]?=some u->W.cell? (A.add j)=some u):=by
 by_cases h:c=k+1
 . refine⟨⟨g,0,none⟩,a0d h,fun W _ j u i=>?_⟩;have a:=(List.getElem?_eq_some_iff.1 i).1;rw[nK d]at a;omega
 . exact⟨⟨g,(k+1)*8,none⟩,a0e h,fun W e=>Px d e (k+1) f⟩
def oS{l:List En}(b:l.length=n)(a:k<n):(l.eraseIdx k).length=k+(n-(k+1)):=by rw[List.length_eraseIdx,a0d (by omega)];omega
def yE(g c n k:Nat)(l:List En)(ob:Nat)(w:World)(o:l.length=n)(h:cO w ob (.slice g n c) l)(V:n<=6)(G:k<n) :
  Calls prog 42 #[.slice g n c,k] w fun f w'=>(∃v,f = .returned v/\cO w' w.heap.size v (l.eraseIdx k))/\Below w.heap.size w w':=by
 have L:=cE
 obtain⟨i0,K,q,r,s⟩:=a0p Tryz.infoEnt;obtain⟨_,_,e,O,_⟩:=h.formN o;cases e
 obtain⟨A,X,B⟩:=xF (b:=ob) (g:=g) o O k G;have z:=af (fun W N=>ET (W:=W) (b:=ob) (g:=g) (c:=c) o N k);have u:=af (take_len o (a0s G));have y:=af (nK (k:=k+1) o);have i:Hid (∀x,x<=40->x<=maxLen/\x*80<=140737488355328):=fun x Y=>by unfold maxLen;omega
 have J:=af (fun W (hb:Below w.heap.size w W)=>h.later hb (a0a _));have M:Hid (l.eraseIdx k=l.take k++l.drop (k+1)):=a2T _ _;have t:=af (oS o G);have S:(k:Int)<(n:Int):=by omega
 have T:(k:Int)<=(c:Int):=by omega
 have Q:0<=(k:Int)+1:=by omega
 have R:(k:Int)+1<=(n:Int):=by omega
 have U:(n:Int)<=6:=by omega
 have P:(n:Int)<=(c:Int):=by omega
 have Z:IntKind.i64.wrap ((k:Int)+1)=(k:Int)+1:=by simp only[IntKind.wrap,IntKind.bits,IntKind.signed];simp;omega
 have d:Hid (Below w.heap.size w (w.drew.alloc (.cells #[] 26))):=(a0c _ _).drew.alloc (a0a _) _;clear h o;go_enter func42,ntmps42;go_wp2_with fail
 go_region_law (first
  | (refine aL rfl (.tmp 5) (.tmp 8) 31 rfl w.heap.size 26 i0 (.agg ()) 8 80 a1h K q r s rfl (by decide) (.slice w.heap.size 0 0) 0 [] (by simp[Act.eval]) (a0S w.drew #[] 0 (a0a _) (by unfold maxLen;omega) rfl) ⟨g,0,none⟩ k c ((l.take k).flatMap bu) (by simp[Act.eval]) u (z _ (ae J _ (ae d))) (kz _) (i _ (by omega)).1 (i _ (by omega)).2 d.size ?_;intro v1 x1 a D H;clear H;have m:=d.grown D d.size (fun j F=>by cases F;exact a0a _))
  | (refine aL rfl (.tmp 9) (.tmp 13) 31 rfl w.heap.size 26 i0 (.agg ()) 8 80 a1h K q r s rfl (by decide) v1 (0+k) ([]++(l.take k).flatMap bu) (by simp[Act.eval]) a A (n-(k+1)) (c-(k+1)) ((l.drop (k+1)).flatMap bu) (by simp[Act.eval]) y (B _ (ae J _ m)) (kz _) (i _ (by omega)).1 (i _ (by omega)).2 m.size ?_;intro v2 x2 p E I;clear I;have C:=m.grown E m.size (fun j F=>(a0z a j F).1)))
 go_wp2;go_ret;refine⟨⟨v2,rfl,?_⟩,C⟩;show World.ownsRow _ _ _ _ _ _ _;rw[ae t,ae M,a1B];simpa using p
end
section
variable {B b c m o:Nat}{a:Option Addr}{d h mi mo s y:Int}{w w':World}{z:Nat->Int}
def Src.later{len:Nat}(h:Src w a len z)(hb:Below w.heap.size w w'):Src w' a len z:=by
 refine⟨h.1,fun c=>?_⟩;obtain⟨ab,ao,e,b,d⟩:=h.2 c;exact⟨ab,ao,e,a0h b hb.size,fun i f=>(hb.cell (p:=⟨ab,ao+i,none⟩) b).trans (d i f)⟩
def Six.set_other(k:Six w b y mo d h mi s)(v:Value)(g:b≠c):Six (w.setCell ⟨c,o,none⟩ v) b y mo d h mi s:=by
 have e:(w.setCell ⟨c,o,none⟩ v).heap[b]?=w.heap[b]?:=a0M w ⟨c,o,none⟩ v b g;obtain⟨⟨c0,c1,c2,c3,c4,f⟩,⟨f0,f1,f2,f3,f4,f5⟩,a⟩:=k;refine⟨⟨?_,?_,?_,?_,?_,?_⟩,⟨?_,?_,?_,?_,?_,?_⟩,by simpa using a⟩
 . exact(zC0 (w:=w) e).trans c0
 . exact(zC0 (w:=w) e).trans c1
 . exact(zC0 (w:=w) e).trans c2
 . exact(zC0 (w:=w) e).trans c3
 . exact(zC0 (w:=w) e).trans c4
 . exact(zC0 (w:=w) e).trans f
 . exact(zF0 (w:=w) e).trans f0
 . exact(zF0 (w:=w) e).trans f1
 . exact(zF0 (w:=w) e).trans f2
 . exact(zF0 (w:=w) e).trans f3
 . exact(zF0 (w:=w) e).trans f4
 . exact(zF0 (w:=w) e).trans f5
def uP(B b m:Nat)(w:World)(h:Rd w B b m)(S:m<=98000) :
  Calls prog 83 #[.pointer b] w fun e w'=>∃y mo d h mi s,e = .returned (.agg #[.int .i64 y,.int .i64 mo,.int .i64 d,.int .i64 h,.int .i64 mi,.int .i64 s])/\DrS y mo d h mi s/\Rd w' B b (m+8)/\Kb b w w':=by
 have D:=h.lt;have N:=af (rm w (.cells #[.int .i64 0,.int .i64 0,.int .i64 0,.int .i64 0,.int .i64 0,.int .i64 0] 24) D);have X0:=af (ir w 0 0 0 0 0 0 24);have P:=af (h.alloc (.cells #[.int .i64 0,.int .i64 0,.int .i64 0,.int .i64 0,.int .i64 0,.int .i64 0] 24));have i:=af (show w.heap.size≠b by omega);have a:=af D;have E:=af S;clear h D S;go_enter func83,ntmps83;go_wp2_with fail;refine(rp B b m _ P (by have:=ae E;omega)).mono ?_;rintro e w1⟨y,mo,d,h,mi,s,rfl,R,J,M⟩;have O:=af (N.trans M);have X1:=af (X0.kb M i);have F:=af R;have G:=J.lt;have L:=X1.2.2;have T:¬ w1.heap.size=w.heap.size:=by omega
 have k:¬ w.heap.size=w1.heap.size:=by omega
 have n:=af (show w1.heap.size≠b by omega);have g:=af (show w.heap.size<=w1.heap.size by omega);have A1:=af (ir w1 y mo d h mi s 24);have K:=af (rm w1 (.cells #[y,mo,d,h,mi,s] 24) G);have Q:=af (J.alloc (.cells #[y,mo,d,h,mi,s] 24));clear N X0 P M J R G L;go_wp2_with fail;refine(bY B b _ 10 _ Q (by have:=ae E;omega) (by omega) (by omega)).mono ?_;rintro e w2⟨r,rfl,Y,J,l,I⟩;have t:=af ((O.trans K).trans I.kb);have X2:=af ((X1.kb K i).kb I.kb i);have A2:=af (A1.kb I.kb n);have u:=af l;clear O X1 A1 K Q I l;by_cases U:r=0
 .
  subst U;go_wp2_with fail;refine(xz B b _ 5 w2.heap.size [0,29,30,31,32] 3 w2 rfl rfl u (by have:=ae E;omega) (by omega) (by omega)).mono ?_;rintro e w3⟨v,p,rfl,l,f⟩;have j:=af p;have A:=af (t.trans f);have X3:=af (X2.kb f i);have A3:=af (A2.kb f n);have C:=af l;clear t X2 A2 u f l p;have q:=af ((X3.set_other (c:=w1.heap.size) (o:=2) (.int .i64 v) k).store y mo v h mi s);obtain⟨⟨c0,c1,c2,c3,c4,H⟩,⟨f0,f1,f2,f3,f4,f5⟩,x⟩:=ae X3;obtain⟨⟨a0,a1,a2,a3,a4,a5⟩,⟨g0,g1,g2,g3,g4,g5⟩,z⟩:=ae A3;clear X3 A3;go_wp2;obtain⟨⟨z0,z1,z2,z3,z4,z5⟩,_,_⟩:=ae q;refine a0x (v:=.agg #[y,mo,v,h,mi,s]) (by simp[results,a3c,go_sem,z0,z1,z2,z3,z4,z5]) rfl ⟨y,mo,v,h,mi,s,rfl,?_,?_,?_⟩
  . obtain⟨_,_,_,_,_,_,_⟩:=ae F;have:=ae j;simp at this;refine⟨?_,?_,?_,?_,?_,?_⟩<;>omega
  . exact tr (lQ (C.mono (by omega)) _ (a0h a g)) (ae a) _ _ _ _ _ _
  . exact sZ (lN A _ g a) (a0a _) (ae a) _ _ _ _ _ _
 .
  skip
  by_cases V:r=1
  .
   subst V;go_wp2_with fail;refine(xz B b _ 4 w2.heap.size [1979,2100,2108,1900] 3 w2 rfl rfl u (by have:=ae E;omega) (by omega) (by omega)).mono ?_;rintro e w3⟨v,p,rfl,l,f⟩;have j:=af p;have A:=af (t.trans f);have X3:=af (X2.kb f i);have A3:=af (A2.kb f n);have C:=af l;clear t X2 A2 u f l p;have q:=af ((X3.set_other (c:=w1.heap.size) (o:=0) (.int .i64 v) k).store v mo d h mi s);obtain⟨⟨c0,c1,c2,c3,c4,H⟩,⟨f0,f1,f2,f3,f4,f5⟩,x⟩:=ae X3;obtain⟨⟨a0,a1,a2,a3,a4,a5⟩,⟨g0,g1,g2,g3,g4,g5⟩,z⟩:=ae A3;clear X3 A3;go_wp2;obtain⟨⟨z0,z1,z2,z3,z4,z5⟩,_,_⟩:=ae q;refine a0x (v:=.agg #[v,mo,d,h,mi,s]) (by simp[results,a3c,go_sem,z0,z1,z2,z3,z4,z5]) rfl ⟨v,mo,d,h,mi,s,rfl,?_,?_,?_⟩
   . obtain⟨_,_,_,_,_,_,_⟩:=ae F;have:=ae j;simp at this;refine⟨?_,?_,?_,?_,?_,?_⟩<;>omega
   . exact tr (lQ (C.mono (by omega)) _ (a0h a g)) (ae a) _ _ _ _ _ _
   . exact sZ (lN A _ g a) (a0a _) (ae a) _ _ _ _ _ _
  .
   skip
   by_cases W:r=2
   .
    subst W;go_wp2_with fail;refine(xz B b _ 4 w2.heap.size [1,59,60,-2] 3 w2 rfl rfl u (by have:=ae E;omega) (by omega) (by omega)).mono ?_;rintro e w3⟨v,p,rfl,l,f⟩;have j:=af p;have A:=af (t.trans f);have X3:=af (X2.kb f i);have A3:=af (A2.kb f n);have C:=af l;clear t X2 A2 u f l p;have q:=af ((X3.set_other (c:=w1.heap.size) (o:=5) (.int .i64 v) k).store y mo d h mi v);obtain⟨⟨c0,c1,c2,c3,c4,H⟩,⟨f0,f1,f2,f3,f4,f5⟩,x⟩:=ae X3;obtain⟨⟨a0,a1,a2,a3,a4,a5⟩,⟨g0,g1,g2,g3,g4,g5⟩,z⟩:=ae A3;clear X3 A3;go_wp2;obtain⟨⟨z0,z1,z2,z3,z4,z5⟩,_,_⟩:=ae q;refine a0x (v:=.agg #[y,mo,d,h,mi,v]) (by simp[results,a3c,go_sem,z0,z1,z2,z3,z4,z5]) rfl ⟨y,mo,d,h,mi,v,rfl,?_,?_,?_⟩
    . obtain⟨_,_,_,_,_,_,_⟩:=ae F;have:=ae j;simp at this;refine⟨?_,?_,?_,?_,?_,?_⟩<;>omega
    . exact tr (lQ (C.mono (by omega)) _ (a0h a g)) (ae a) _ _ _ _ _ _
    . exact sZ (lN A _ g a) (a0a _) (ae a) _ _ _ _ _ _
   .
    skip
    by_cases X:r=3
    .
     subst X;go_wp2_with fail;refine(xz B b _ 3 w2.heap.size [0,2,13] 3 w2 rfl rfl u (by have:=ae E;omega) (by omega) (by omega)).mono ?_;rintro e w3⟨v,p,rfl,l,f⟩;have j:=af p;have A:=af (t.trans f);have X3:=af (X2.kb f i);have A3:=af (A2.kb f n);have C:=af l;clear t X2 A2 u f l p;have q:=af ((X3.set_other (c:=w1.heap.size) (o:=1) (.int .i64 v) k).store y v d h mi s);obtain⟨⟨c0,c1,c2,c3,c4,H⟩,⟨f0,f1,f2,f3,f4,f5⟩,x⟩:=ae X3;obtain⟨⟨a0,a1,a2,a3,a4,a5⟩,⟨g0,g1,g2,g3,g4,g5⟩,z⟩:=ae A3;clear X3 A3;go_wp2;obtain⟨⟨z0,z1,z2,z3,z4,z5⟩,_,_⟩:=ae q;refine a0x (v:=.agg #[y,v,d,h,mi,s]) (by simp[results,a3c,go_sem,z0,z1,z2,z3,z4,z5]) rfl ⟨y,v,d,h,mi,s,rfl,?_,?_,?_⟩
     . obtain⟨_,_,_,_,_,_,_⟩:=ae F;have:=ae j;simp at this;refine⟨?_,?_,?_,?_,?_,?_⟩<;>omega
     . exact tr (lQ (C.mono (by omega)) _ (a0h a g)) (ae a) _ _ _ _ _ _
     . exact sZ (lN A _ g a) (a0a _) (ae a) _ _ _ _ _ _
    .
     skip
     have X3:=X2;have q:=af (X2.store y mo d h mi s);obtain⟨⟨c0,c1,c2,c3,c4,H⟩,⟨f0,f1,f2,f3,f4,f5⟩,x⟩:=ae X2;obtain⟨⟨a0,a1,a2,a3,a4,a5⟩,⟨g0,g1,g2,g3,g4,g5⟩,z⟩:=ae A2;clear X2 A2 X3;go_wp2;obtain⟨⟨z0,z1,z2,z3,z4,z5⟩,_,_⟩:=ae q;refine a0x (v:=.agg #[y,mo,d,h,mi,s]) (by simp[results,a3c,go_sem,z0,z1,z2,z3,z4,z5]) rfl ⟨y,mo,d,h,mi,s,rfl,F,?_,?_⟩
     . exact tr (u.mono (by omega)) (ae a) _ _ _ _ _ _
     . exact sZ (ae t) (a0a _) (ae a) _ _ _ _ _ _
end
section
variable {b p:Nat}{s:ByteArray}{v0 v1 v2:Value}{w w':World}
attribute [local go_sem ↓] Go.wp_at_zero Go.wp_at_succ
end
section
variable {B G L b g i j k n o:Nat}{a:Option Addr}{f:Nat×Nat}{l:List Int}{m:Nat->Nat}{t t':TypeId}{v vc vl vs y:Value}{w w' w1 x y':World}{xs:List Value}
open Corb
def uQ(B b m:Nat)(w:World)(h:Rd w B b m)(k:m<=80000) :
  Calls prog 84 #[.pointer b] w fun e w'=>(∃s:ByteArray,e = .returned (.string s)/\s.size<=400)/\Rd w' B b (m+60)/\Kn b w w':=by
 go_enter func84,ntmps84;go_wp2_with fail;apply(bY B b m _ _ h (by omega) (by omega) (by omega)).mono;rintro e w1⟨r,rfl,l,n,c,a⟩;by_cases g:r=0
 . subst g;go_wp2_with (go_at_call 127;apply(qf _ _ _ (by omega) (by omega) (by decide)).mono;rintro e w'⟨⟨t,rfl,j⟩,rfl⟩);go_ret;exact⟨⟨t,rfl,by rw[j];decide⟩,c.mono (by omega),a.kn⟩
 .
  have g0:(r == 0)=false:=by simpa using g
  clear g;go_wp2_with (go_at_call 125;apply(rq B b (m+1) _ c (by omega)).mono;rintro e w2⟨⟨s,rfl,i⟩,f,d⟩);go_ret;exact⟨⟨s,rfl,i⟩,f.mono (by omega),a.kn.trans d⟩
section
variable {α : Type} {f : α → List Value} {c : Nat}
variable {T : TypeId}
end
end
section
variable {B b c o:Nat}{W w w':World}{d h mi mo s y:Int}{n t:ByteArray}{vs:List Value}{x0 x1 x2 x3 x4 x5 x6:Value}
def Ent.set_other(k:Ent w b n y mo d h mi s t)(v:Value)(j:b≠c):Ent (w.setCell ⟨c,o,none⟩ v) b n y mo d h mi s t:=by
 have e:(w.setCell ⟨c,o,none⟩ v).heap[b]?=w.heap[b]?:=a0M w ⟨c,o,none⟩ v b j;obtain⟨⟨c0,c1,c2,c3,c4,f,g,i⟩,⟨f0,f1,f2,f3,f4,f5,f6,f7⟩,a⟩:=k;refine⟨⟨?_,?_,?_,?_,?_,?_,?_,?_⟩,⟨?_,?_,?_,?_,?_,?_,?_,?_⟩,by simpa using a⟩
 . exact(zC0 (w:=w) e).trans c0
 . exact(zC0 (w:=w) e).trans c1
 . exact(zC0 (w:=w) e).trans c2
 . exact(zC0 (w:=w) e).trans c3
 . exact(zC0 (w:=w) e).trans c4
 . exact(zC0 (w:=w) e).trans f
 . exact(zC0 (w:=w) e).trans g
 . exact(zC0 (w:=w) e).trans i
 . exact(zF0 (w:=w) e).trans f0
 . exact(zF0 (w:=w) e).trans f1
 . exact(zF0 (w:=w) e).trans f2
 . exact(zF0 (w:=w) e).trans f3
 . exact(zF0 (w:=w) e).trans f4
 . exact(zF0 (w:=w) e).trans f5
 . exact(zF0 (w:=w) e).trans f6
 . exact(zF0 (w:=w) e).trans f7
def td(B b m:Nat)(w:World)(h:Rd w B b m)(Z:m<=60000) :
  Calls prog 45 #[.pointer b] w fun e w'=>∃n y mo d h mi s t,e = .returned (.agg #[.string n,.int .i64 y,.int .i64 mo,.int .i64 d,.int .i64 h,.int .i64 mi,.int .i64 s,.string t])/\(n∈pg++gn/\t.size<=400)/\Rd w' B b (m+120)/\Kn b w w':=by
 have C:=h.lt;have V:=af (gV w (.cells () 26) C);have X0:=af (kA w ⟨#[]⟩ 0 0 0 0 0 0 ⟨#[]⟩ 26);have X:=af (h.alloc (.cells () 26));have j:=af (show w.heap.size≠b by omega);have a:=af C;have E:=af Z;clear h C Z;go_enter func45,ntmps45;go_wp2_with fail;refine(pH B b m _ X (by have:=ae E;omega)).mono ?_;rintro e w1⟨n,y,mo,d,h,mi,s,t,rfl,⟨hn,ht⟩,L,U⟩;have M:Hid (n∈pg++gn):=a03.2 (.inr hn);have N:=af ht;have W:=af (V.trans U);have X1:=af (X0.kn U j);have F:=L.lt;have T:=X1.2.2;have aa:¬ w1.heap.size=w.heap.size:=by omega
 have g:¬ w.heap.size=w1.heap.size:=by omega
 have k:=af (show w1.heap.size≠b by omega);have f:=af (show w.heap.size<=w1.heap.size by omega);have A1:=af (kA w1 n y mo d h mi s t 26);have P:=af (gV w1 (.cells #[n,y,mo,d,h,mi,s,t] 26) F);have Y:=af (L.alloc (.cells #[n,y,mo,d,h,mi,s,t] 26));clear V X0 X U L hn ht F T;go_wp2_with fail;refine(bY B b _ 10 _ Y (by have:=ae E;omega) (by omega) (by omega)).mono ?_;rintro e w2⟨r,rfl,r0,L,rr,K⟩;have l:=af ((W.trans P).trans K.kn);have X2:=af ((X1.kn P j).kn K.kn j);have A2:=af (A1.kn K.kn k);have p:=af rr;clear W X1 A1 P Y K rr;by_cases q0:r=0
 .
  subst q0;go_wp2_with fail;refine(oa B b _ _ p (by have:=ae E;omega)).mono ?_;rintro e w3⟨v,G,rfl,q,i⟩;have O:=af G;clear G;have x:=af (l.trans i);have X3:=af (X2.kn i j);have A3:=af (A2.kn i k);have z:=af q;clear l X2 A2 p i q;have u:=af (Ent.store (X3.set_other (c:=w1.heap.size) (o:=0) (.string v) g) v y mo d h mi s t);obtain⟨⟨c0,c1,c2,c3,c4,Q,R,S⟩,⟨f0,f1,f2,f3,f4,f5,f6,f7⟩,A⟩:=ae X3;obtain⟨⟨a0,a1,a2,a3,a4,a5,a6,a7⟩,⟨g0,g1,g2,g3,g4,g5,g6,g7⟩,D⟩:=ae A3;clear X3 A3;go_wp2;obtain⟨⟨z0,z1,z2,z3,z4,z5,z6,z7⟩,_,_⟩:=ae u;refine a0x (v:=.agg #[v,y,mo,d,h,mi,s,t]) (by simp[results,a34,go_sem,z0,z1,z2,z3,z4,z5,z6,z7]) rfl ⟨v,y,mo,d,h,mi,s,t,rfl,⟨O,N⟩,?_,?_⟩
  . exact ov (eE (z.mono (by omega)) _ (a0h a f)) (ae a) _ _ _ _ _ _ _ _
  . exact nY (gE x _ f a) (a0a _) (ae a) _ _ _ _ _ _ _ _
 .
  skip
  by_cases q1:r=1
  .
   subst q1;go_wp2_with fail;refine(uP B b _ _ p (by have:=ae E;omega)).mono ?_;rintro e w3⟨y',mo',I,J,mi',s',rfl,ds,q,H⟩;have i:=rn H;clear ds H;have x:=af (l.trans i);have X3:=af (X2.kn i j);have A3:=af (A2.kn i k);have z:=af q;clear l X2 A2 p i q;have u:=af (Ent.store ((((((X3.set_other (c:=w1.heap.size) (o:=1) (.int .i64 y') g).set_other (c:=w1.heap.size) (o:=2) (.int .i64 mo') g).set_other (c:=w1.heap.size) (o:=3) (.int .i64 I) g).set_other (c:=w1.heap.size) (o:=4) (.int .i64 J) g).set_other (c:=w1.heap.size) (o:=5) (.int .i64 mi') g).set_other (c:=w1.heap.size) (o:=6) (.int .i64 s') g) n y' mo' I J mi' s' t);obtain⟨⟨c0,c1,c2,c3,c4,Q,R,S⟩,⟨f0,f1,f2,f3,f4,f5,f6,f7⟩,A⟩:=ae X3;obtain⟨⟨a0,a1,a2,a3,a4,a5,a6,a7⟩,⟨g0,g1,g2,g3,g4,g5,g6,g7⟩,D⟩:=ae A3;clear X3 A3;go_wp2;obtain⟨⟨z0,z1,z2,z3,z4,z5,z6,z7⟩,_,_⟩:=ae u;refine a0x (v:=.agg #[n,y',mo',I,J,mi',s',t]) (by simp[results,a34,go_sem,z0,z1,z2,z3,z4,z5,z6,z7]) rfl ⟨n,y',mo',I,J,mi',s',t,rfl,⟨M,N⟩,?_,?_⟩
   . exact ov (eE (eE (eE (eE (eE (eE (z.mono (by omega)) _ (a0h a f)) _ (a0h a f)) _ (a0h a f)) _ (a0h a f)) _ (a0h a f)) _ (a0h a f)) (ae a) _ _ _ _ _ _ _ _
   . exact nY (gE (gE (gE (gE (gE (gE x _ f a) _ f a) _ f a) _ f a) _ f a) _ f a) (a0a _) (ae a) _ _ _ _ _ _ _ _
  .
   skip
   by_cases q2:r=2
   .
    subst q2;go_wp2_with fail;refine(uQ B b _ _ p (by have:=ae E;omega)).mono ?_;rintro e w3⟨⟨v,rfl,G⟩,q,i⟩;have O:=af G;clear G;have x:=af (l.trans i);have X3:=af (X2.kn i j);have A3:=af (A2.kn i k);have z:=af q;clear l X2 A2 p i q;have u:=af (Ent.store (X3.set_other (c:=w1.heap.size) (o:=7) (.string v) g) n y mo d h mi s v);obtain⟨⟨c0,c1,c2,c3,c4,Q,R,S⟩,⟨f0,f1,f2,f3,f4,f5,f6,f7⟩,A⟩:=ae X3;obtain⟨⟨a0,a1,a2,a3,a4,a5,a6,a7⟩,⟨g0,g1,g2,g3,g4,g5,g6,g7⟩,D⟩:=ae A3;clear X3 A3;go_wp2;obtain⟨⟨z0,z1,z2,z3,z4,z5,z6,z7⟩,_,_⟩:=ae u;refine a0x (v:=.agg #[n,y,mo,d,h,mi,s,v]) (by simp[results,a34,go_sem,z0,z1,z2,z3,z4,z5,z6,z7]) rfl ⟨n,y,mo,d,h,mi,s,v,rfl,⟨M,O⟩,?_,?_⟩
    . exact ov (eE (z.mono (by omega)) _ (a0h a f)) (ae a) _ _ _ _ _ _ _ _
    . exact nY (gE x _ f a) (a0a _) (ae a) _ _ _ _ _ _ _ _
   .
    skip
    have x:=l;have X3:=X2;have A3:=A2;have z:=p;clear l X2 A2 p;have u:=af (Ent.store X3 n y mo d h mi s t);obtain⟨⟨c0,c1,c2,c3,c4,Q,R,S⟩,⟨f0,f1,f2,f3,f4,f5,f6,f7⟩,A⟩:=ae X3;obtain⟨⟨a0,a1,a2,a3,a4,a5,a6,a7⟩,⟨g0,g1,g2,g3,g4,g5,g6,g7⟩,D⟩:=ae A3;clear X3 A3;go_wp2;obtain⟨⟨z0,z1,z2,z3,z4,z5,z6,z7⟩,_,_⟩:=ae u;refine a0x (v:=.agg #[n,y,mo,d,h,mi,s,t]) (by simp[results,a34,go_sem,z0,z1,z2,z3,z4,z5,z6,z7]) rfl ⟨n,y,mo,d,h,mi,s,t,rfl,⟨M,N⟩,?_,?_⟩
    . exact ov (z.mono (by omega)) (ae a) _ _ _ _ _ _ _ _
    . exact nY (ae x) (a0a _) (ae a) _ _ _ _ _ _ _ _
end
section
variable {b:Nat}{w w':World}
def Nn{g:Nat}{vs:List Value}(h:Blk w g vs)(a:Kn b w w')(hb:g≠b):Blk w' g vs:=by
 have e:=a.2.1 g h.1 hb;exact⟨a0h h.1 a.2.2,fun i x ex=>⟨(zC0 (w:=w) e).trans (h.2 i x ex).1,(zF0 (w:=w) e).trans (h.2 i x ex).2⟩⟩
def nJ(a:Option Addr)(len cap:Nat)(z:Nat->Int)(w:World)(h:Src w a len z)(U:len<=cap)(V:len<=maxLen) :
  Calls prog 16 #[.slice a len cap] w fun e w'=>(∃(s:ByteArray) (en:En),e = .returned (.tuple #[s,.agg en])/\s.size<=9100/\en.n.size<=100/\en.t.size<=400)/\Below w.heap.size w w':=by
 have r:=af ((a0c w.heap.size w).alloc (a0a _) (.cells () 26));have I:=af (ay w () 26);have O:=af (h.later r);clear h;go_enter func16,ntmps16;go_wp2_with fail;refine(wE a len cap z _ O U V).mono ?_;rintro e w1⟨rfl,i,c,A⟩;have f:(w.alloc (.cells () 26)).heap.size=w.heap.size+1:=by simp
 have J:=af (I.later c (by simp));have F:=af (r.trans (c.mono (by simp)));rw[f]at i;try rw[f]
 have x:=af (show w.heap.size≠w.heap.size+1 by omega);clear c A r I O f;obtain⟨b,hb⟩:∃b,w.heap.size+1=b:=⟨_,rfl⟩;rw[hb]at i x;try rw[hb]
 have g:Hid (w.heap.size<b):=by show _<_;omega
 clear hb;go_wp2_with fail;refine(wD _ b 0 _ i (by omega)).mono ?_;rintro e w2⟨⟨l1,B,rfl⟩,j,C⟩;have K:=af (Nn J C x);have G:=af (F.trans (C.1.mono (a0s g)));have T:=kX l1;clear i C J F B;generalize dC l1=S1 at *;go_wp2_with fail;refine(ub _ b _ S1 _ j (by omega) (by omega)).mono ?_;rintro e w3⟨⟨t,rfl,P⟩,k,D⟩;have L:=af (K.later D g);have H:=af (G.trans (D.mono (a0s g)));have R:=af P;clear j D K G T P;go_wp2_with fail;refine(td _ b _ _ k (by omega)).mono ?_;rintro e w4⟨n,y,mo,d,h,mi,s,tt,rfl,⟨N,q⟩,p,E⟩;have m:=af (Nn L E x);have Q:=af (H.trans (E.1.mono (a0s g)));have l:=af (a0b (vn N) q);clear k E L H p N q;have S:=af (Blk.set8 m (.string n) (.int .i64 y) (.int .i64 mo) (.int .i64 d) (.int .i64 h) (.int .i64 mi) (.int .i64 s) (.string tt));have u:=af (ai (o:=7) (ai (o:=6) (ai (o:=5) (ai (o:=4) (ai (o:=3) (ai (o:=2) (ai (o:=1) (ai (o:=0) Q (a0a _) (.string n)) (a0a _) (.int .i64 y)) (a0a _) (.int .i64 mo)) (a0a _) (.int .i64 d)) (a0a _) (.int .i64 h)) (a0a _) (.int .i64 mi)) (a0a _) (.int .i64 s)) (a0a _) (.string tt));have W:=m.cells (n:=8) rfl;have f5:=m.frees (n:=8) rfl;have M:=m.1;clear m;go_wp2;have zc:=S.cells (n:=8) rfl;have z0:=zc 0 (by decide);have z1:=zc 1 (by decide);have z2:=zc 2 (by decide);have z3:=zc 3 (by decide);have z4:=zc 4 (by decide);have z5:=zc 5 (by decide);have z6:=zc 6 (by decide);have z7:=zc 7 (by decide);simp only[List.getElem?_cons_zero,List.getElem?_cons_succ]at z0 z1 z2 z3 z4 z5 z6 z7;exact a0x (v:=.tuple #[t,.agg #[n,y,mo,d,h,mi,s,tt]]) (by simp[results,results16,go_sem,z0,z1,z2,z3,z4,z5,z6,z7]) rfl ⟨⟨t,⟨n,y,mo,d,h,mi,s,tt⟩,rfl,R,l.1,l.2⟩,u⟩
end
section
variable {T c s x y:ByteArray}{b i k m:Nat}{u:List UInt8}{w w':World}
open Go.RowKit
def fH:List En->List En->Int×List En
 | [],l=>(0,l)
 | e :: r,l=>if aK l e=0 then fH r (l++[e])else(aK l e,[])
def mf(x:ByteArray)(l:List En):Int×List En:=if atN l x<0 then(2,[])else(0,l.eraseIdx (atN l x).toNat)
def Tv{r l:List En}(h:bi l=true)(a:(fH r l).1=0):bi (fH r l).2=true:=by
 induction r generalizing l with
 | nil=>exact h
 | cons e r ih=>
  unfold fH at a ⊢
  split at a
  . rename_i hc;rw[a0d hc];exact ih ((iv h e).2 hc) a
  . rename_i hc;exact absurd a hc
def Rt{l:List En}(h:bi l=true)(a:(mf x l).1=0):bi (mf x l).2=true:=by
 unfold mf at a ⊢
 split
 . rename_i hc;rw[a0d hc]at a;cases a
 . exact pw h _
def MN{l:List En}{e:En}(h:aK l e=0):fH [e] l=(0,l++[e]):=by unfold fH;rw[a0d h];rfl
def MO{l:List En}{e:En}(h:aK l e≠0):fH [e] l=(aK l e,[]):=by unfold fH;rw[a0e h]
end
section
variable {W w:World}
def MQ{M l:List En}{k:Nat}(a:k<M.length):fH (M.drop k) l=if aK l (M.getD k default)=0 then fH (M.drop (k+1)) (l++[M.getD k default])else(aK l (M.getD k default),[]):=by
 have e:M.drop k=M.getD k default :: M.drop (k+1):=by
  rw[a28 a];simp[List.getD,a]
 rw[e];rfl
def Ci(M:List En)(a:Option Addr)(c N:Nat)(hN:M.length=N)(v:Value)(l:List En)(bx b:Nat)(m:Int)(w:World)(h:cO w b v l)(hz:bi l=true)(hb:b<=w.heap.size)(hx:w.cell? ⟨bx,0,none⟩=some (.slice a N c))
  (hM:∀W,Below b w W->iA W a M) (hs:∀i,i<N->(M.getD i default).n.size<=1048576/\((M.getD i default).t.size:Int)<=9223372036854775807) (ab:N<=6) (hm:∀W,Below b w W->W.cell? ⟨2,0,none⟩=some (.int .i64 m)) :
  Calls prog 85 #[v,.pointer bx] w (qG b w (fH M l)):=by
 obtain⟨i0,hi,ac,ad,al⟩:=a0p Tryz.infoEnt;have ao:(N:Int)<=6:=by omega
 have V:=af hN;have HS:=af hs;have HM:=af hM;have CM:=af hm;have Y:=af (a0b h (a0b hz hb));obtain⟨n0,hn0⟩:∃n,l.length=n:=⟨_,rfl⟩;obtain⟨fa,fc,rfl,_,_⟩:=h.formN hn0;clear h hz hb hN hs hM hm ab hn0;go_enter func85,ntmps85;go_wp2_with fail
 go_loopw [0,6,7,10] (fun f _ _ i wr=>∃(k:Nat) (L:List En),k<=N/\i = .int .i64 k/\cO wr b f L/\bi L=true/\fH (M.drop k) L=fH M l/\Below b w wr) (fun _ _ _ i _=>N-(intOf i).toNat)
 case atStart=>exact⟨0,l,a0g _,rfl,Y.1,Y.2.1,rfl,a0c _ _⟩
 case round=>
  obtain⟨k,L,hk,rfl,ho,H,z,e⟩:=hrel;have S:=Y.2.2;have HO:=af ho;have HZ:=af H;have I:=af z;have HB:=af e;have E:Hid (b<=wr.heap.size):=a0E S e.size;obtain⟨n,hn⟩:∃n,L.length=n:=⟨_,rfl⟩;obtain⟨fa,fc,rfl,_,_⟩:=ho.formN hn;have h6:=(ct H).2;have a1:n<=6:=by omega
  have Hn:=af hn;clear ho H z S h6;by_cases G:k<N
  .
   have a0:(k:Int)<(N:Int):=(by omega);obtain⟨g,o,rfl,hg,hc⟩:=HM wr e (by have:=ae V;omega);obtain⟨c0,c1,c2,c3,c4,c5,c6,c7⟩:=hc k (by have:=ae V;omega);have K:=af G;have P:=af (ae HS k G);have x:Hid (fH (M.drop k) L=_):=MQ (by have:=ae V;omega);clear hc hk G e;generalize M.getD k default=en at *;have hA:=(a0c wr.heap.size wr).alloc (a0a _) (.cells en 26);have C:=af (HB.trans (hA.mono E));have D:=af (HO.later hA (a0a _));have P1:=af (ay wr en 26);have CR:=af (lA fa fc L n hn en m _ (bv hn D) (by omega) (fun i hi=>by have:=(dK HZ i (by omega)).1;omega) P.1 P.2 (CM _ (ae C)));clear hA;go_wp2_with fail;refine CR.mono ?_;rintro f x1⟨rfl,p⟩;have J:=af (C.trans (p.mono (a0E E (by simp))));have Z:=af (D.later p (a0a _));have P2:=af (P1.later p P1.1);have Q:Hid (b<=x1.heap.size):=a0E E (a0E (by simp) p.size);clear p CR c0 c1 c2 c3 c4 c5 c6 c7 C D P1 hn;by_cases j:aK L en=0
   .
    rw[show cX (aK L en) = .nilIface by rw[j];rfl];have O:Hid (bi (L++[en])=true/\fH (M.drop (k+1)) (L++[en])=fH M l):=by
     refine⟨(iv HZ _).2 j,?_⟩;rw[←ae I,ae x,a0d j]
    have A:Hid (n+1<=maxLen/\(n+1)*80<=140737488355328):=by show _/\_;unfold maxLen;omega
    have F:=bj.own Hn Z;have r:=ae Q;have pA:=P2.cells (n:=8) rfl;clear j x I;go_wp2_with (at_builtin;refine a0w _ rfl _ _ 31 rfl b 26 i0 (.agg ()) 8 80 a1h hi ac ad al rfl (by decide) _ _ _ rfl (a0o F _) ⟨x1.heap.size,0,none⟩ 1 1 (bu en) rfl rfl (jd x1 _ _) (gP _) A.1 A.2 (ar r _) ?_;intro v5 x5 B u T;clear T;have R:=aH (v:=.slice fa n fc) u F (a0a _) r J);have aa:Hid (cO x5 b v5 (L++[en])):=bj.snoc Hn B;have X:=af R;clear B u R F r pA;go_wp2;go_roundw
    case rel=>exact⟨k+1,_,by have:=ae K;omega,by go_num,aa,O.1,O.2,X⟩
    case measure=>have:=ae K;simp[intOf];omega
   .
    rw[show cX (aK L en) = .iface 83 (.agg #[.int .i64 (aK L en)]) by unfold cX;rw[a0e j]];have U:Hid ((fH M l).1=aK L en):=by show _=_;rw[←ae I,ae x,a0e j]
    have HC:=af j;clear j x I;generalize aK L en=q at *;go_wp2
    go_ret2
    exact mF U HC J
  .
   obtain rfl:k=N:=by omega
   have U:Hid (fH M l=(0,L)):=by show _=_;rw[←ae I,a2R (by rw[ae V];exact a0a _)];rfl
   clear e;go_wp2
   go_ret2
   refine⟨⟨.slice fa n fc,?_,⟨_,_,_,rfl⟩,fun _=>?_⟩,HB⟩
   . rw[ae U];rfl
   . rw[ae U];exact HO
def Do(a:Option Addr)(n c:Nat)(w:World) :
  Calls prog 46 #[.slice a n c] w fun f w'=>f = .returned (.func (.func 85) #[] #[.pointer w.heap.size])/\w'=w.alloc (.cells #[.slice a n c] 31):=by
 go_enter func46,ntmps46;go_wp2;go_ret;exact⟨rfl,rfl⟩
def Cj(s:ByteArray)(d:List En->Int×List En)(bx:Nat)(m:Int)(w:World)(R:s.size<=1048576)(I:w.cell? ⟨2,0,none⟩=some (.int .i64 m))(M:j9 w)(L:dp w)
  (hd:∀l,bi l=true->(d l).1=0->bi (d l).2=true)
  (X:∀W v l,cV s=some l->Below w.heap.size w W->cO W w.heap.size v l->Calls prog 85 #[v,.pointer bx] W (qG w.heap.size W (d l))) :
  Calls prog 21 #[s,.func (.func 85) #[] #[.pointer bx]] w fun f w'=>f = .returned (edR s d)/\Below w.heap.size w w':=by
 have C:=af (bS s m w R I M L);have Z:=af I;have P:=af (zB0 _ _ I);have Y:=af (fun W (hb:Below w.heap.size w W)=>(hb.cell (p:=⟨2,0,none⟩) P).trans Z);have V:=af (fun W (hb:Below w.heap.size w W)=>M.later hb);have J:=af (fun W (hb:Below w.heap.size w W)=>L.later hb);have U:=af X;have Hd:=af hd;have HS:=af R;clear R I M L hd X;go_enter func21,a4c;go_wp2_with fail;refine C.mono ?_;rintro f x1⟨⟨v,rfl,b⟩,h⟩;have B:=af h;clear C;rcases z:cV s with _|l
 .
  have D:=af (ju z d);clear z b h;go_wp2
  go_ret2
  exact⟨by rw[ae D];rfl,B⟩
 .
  rw[z]at b;have CD:=af (ae U x1 v l z h b);have K:=af z;clear z b h U;go_wp2_with fail;refine CD.mono ?_;rintro f x2⟨⟨v2,rfl,⟨a,n,c,rfl⟩,G⟩,E⟩;have o:=af (B.trans E);have A:=af (iy (d l).1 x2 (V _ (ae o)));have H:=af G;clear E G CD;obtain⟨q,hq⟩:∃q,d l=q:=⟨_,rfl⟩;have Hq:=af hq;rw[hq]at A H;rw[hq];clear hq;obtain⟨k,r⟩:=q;simp only at A H;simp only;obtain⟨FV,hFV⟩:∃x,cX k=x:=⟨_,rfl⟩;rw[hFV]at A;rw[hFV];clear hFV;go_wp2_with fail;refine A.mono ?_;rintro f x3⟨rfl,u⟩;have e:=af (aj o u);have j:=af u;clear u A;by_cases O:k=0
  .
   subst O;have y:bi r=true:=by have:=ae Hd l (eG K) (by rw[ae Hq]);rw[ae Hq]at this;exact this
   have Q:cO x2 w.heap.size (.slice a n c) r:=ae H rfl;obtain⟨N,hN⟩:∃n,r.length=n:=⟨_,rfl⟩;obtain⟨a',c',e',aa,_⟩:=Q.formN hN;cases e'
   have F:=Q.later j (a0a _);have h6:=(ct y).2;have T:=af (dM a c r n hN m x3 (bv hN F) (by omega) (by omega) (fun i hi=>dK y i (by omega)) (Y _ (ae e)) (V _ (ae e)) (J _ (ae e)));have D:=af (iY K Hq);clear y Q F h6 H j o;go_wp2_with fail;refine T.mono ?_;rintro f x4⟨rfl,g⟩;have t:=af (aj e g);clear g T;go_wp2
   go_ret2
   exact⟨by rw[ae D];rfl,t⟩
  .
   have D:=af (lj K Hq O);have S:=af (fun W=>jj s W (by have:=ae HS;omega));have hd:decide (k=0)=false:=a0m O;go_wp2_with fail;refine(S _).mono ?_;rintro f x4⟨rfl,g⟩;have t:=af (aj e g);clear g S;go_wp2
   go_ret2
   exact⟨by rw[ae D];rfl,t⟩
def yl(s:ByteArray)(M:List En)(a:Option Addr)(c N:Nat)(o:M.length=N)(bx:Nat)(m:Int)(w:World)(y:s.size<=1048576)(g:w.cell? ⟨bx,0,none⟩=some (.slice a N c))(k:iA w a M)
  (r:∀i,i<N->(M.getD i default).n.size<=1048576/\((M.getD i default).t.size:Int)<=9223372036854775807) (d:N<=6) (e:w.cell? ⟨2,0,none⟩=some (.int .i64 m)) (u:j9 w) (q:dp w) :
  Calls prog 21 #[s,.func (.func 85) #[] #[.pointer bx]] w fun f w'=>f = .returned (edR s (fH M))/\Below w.heap.size w w':=
 Cj s (fH M) bx m w y e u q (fun _ h j=>Tv h j)
  (fun W v l z hb x=>Ci M a c N o v l bx w.heap.size m W x (eG z) hb.size ((hb.cell (p:=⟨bx,0,none⟩) (zB0 _ _ g)).trans g)
   (fun _ b=>k.later (hb.trans b)) r d (fun _ b=>((hb.trans b).cell (p:=⟨2,0,none⟩) (zB0 _ _ e)).trans e))
def Po{g:Nat}{e:En}(h:Blk W g (bu e)):iA W (some ⟨g,0,none⟩) [e]:=by
 intro _;refine⟨g,0,rfl,h.1,fun i a=>?_⟩;have e0:i=0:=by simp at a;exact a
 subst e0;exact Tm fun j b=>by
  rw[show(0+0*8+j)=j by omega];exact h.cells (n:=8) rfl j b
def nW(s:ByteArray)(e:En)(m:Int)(w:World)(E:s.size<=1048576)(B:e.n.size<=1048576)(F:(e.t.size:Int)<=9223372036854775807)(x:w.cell? ⟨2,0,none⟩=some (.int .i64 m))(D:j9 w)(z:dp w) :
  Calls prog 17 #[s,.agg e] w fun f w'=>f = .returned (edR s (fH [e]))/\Below w.heap.size w w':=by
 have r:=af ((a0c w.heap.size w).alloc (a0a _) (.cells e 26));have c:=af (r.alloc r.size (.cells e 26));have P:=af (ay (w.alloc (.cells e 26)) e 26);have G:=af (fun W (hb:Below w.heap.size w W)=>(hb.cell (p:=⟨2,0,none⟩) (zB0 _ _ x)).trans x);have CD:=af (fun W (hb:Below w.heap.size w W) g bx (hP:Blk W g (bu e)) (hx:W.cell? ⟨bx,0,none⟩=some (.slice g 1 1))=>yl s [e] (some ⟨g,0,none⟩) 1 1 rfl bx m W E hx (Po hP) (fun i I=>(by obtain rfl:i=0:=(by omega);exact⟨B,F⟩)) (by omega) (G W hb) (D.later hb) (z.later hb));clear E B F x D z;go_enter func17,ntmps17;go_wp2_with fail;refine(Do _ _ _ _).mono ?_;rintro f x1⟨rfl,l⟩;have u:=(a0c ((w.alloc (.cells e 26)).alloc (.cells e 26)).heap.size _).alloc (a0a _) (.cells #[.slice (some ⟨w.heap.size+1,0,none⟩) 1 1] 31);have q:=P.later u P.1;rw[show(w.alloc (.cells e 26)).heap.size=w.heap.size+1 by simp]at q;have A:=(ay ((w.alloc (.cells e 26)).alloc (.cells e 26)) #[.slice (some ⟨w.heap.size+1,0,none⟩) 1 1] 31).cell 0 _ rfl;have a:=af (aj c u);have C:=af (ae CD _ (ae a) _ _ q A);obtain⟨bx,hbx⟩:∃b,((w.alloc (.cells e 26)).alloc (.cells e 26)).heap.size=b:=⟨_,rfl⟩;rw[hbx]at C;rw[hbx];rw[←l]at C a;clear l r c P q A u CD hbx;go_wp2_with fail;refine C.mono ?_;rintro f x2⟨rfl,j⟩;have o:=af (aj a j);clear j C a;obtain⟨t,k,v⟩:=ve s (fH [e]);have H:=af v;rw[v];clear v;go_wp2
 go_ret2
 exact⟨by rw[ae H];rfl,o⟩
def IY(l:List En)(e:En):fH [e] l=if aK l e=0 then(0,l++[e])else(aK l e,[]):=rfl
def xT(s:ByteArray)(e:En)(w:World)(A:s.size<=1048576)(K:e.n.size<=1048576)(M:(e.t.size:Int)<=9223372036854775807) :
  Calls prog 18 #[s,.agg e] w fun f w'=>f = .returned (edR s (fH [e]))/\Below w.heap.size w w':=by
 have J:=af ((a0c w.heap.size w).alloc (a0a _) (.cells e 26));have P:=af (ay w e 26);have C:=af (fun W=>kQ s W A);have CA:=af (fun W v l ob h O A=>zu v l e ob W h O A K M);clear A K M;go_enter func18,ntmps18;go_wp2_with fail;refine(C _).mono ?_;rintro f x1⟨⟨v,rfl,b⟩,k⟩;have o:=af (aj J k);have N:=af (P.later k P.1);clear C k J P;rcases m:cV s with _|l
 .
  have r:=af (ju m (fH [e]));clear m b;go_wp2
  go_ret2
  exact⟨by rw[ae r];rfl,o⟩
 .
  rw[m]at b;have b:cO x1 _ v l:=b;have g:=eG m;have H:=af (ae CA x1 v l _ b (ct g).2 (fun i L=>by have:=(dK g i L).1;omega));have E:=af m;obtain⟨a,c,R,_,_⟩:=b.form;have S:=N.cells (n:=8) rfl;clear m b CA g;subst R;go_wp2_with fail;refine H.mono ?_;rintro f x2⟨⟨v2,rfl,z,_⟩,u⟩;have p:=af (aj o u);have D:=af z;clear u z H S;by_cases j:aK l e=0
  .
   have hd:fH [e] l=(0,l++[e]):=(by rw[IY,a0d j]);have g:=(iv (eG E) e).2 j;obtain⟨n,hn⟩:∃n,(l++[e]).length=n:=⟨_,rfl⟩;have G:=ae D j;obtain⟨a2,c2,rfl,_,_⟩:=G.formN hn;have I:=af (pd a2 c2 n (l++[e]) x2 hn (bv hn G) (by have:=(ct g).2;omega) (fun i L=>lI g (by omega)));have F:=af (vw g hn);have r:=af (iY E hd);rw[j];clear j hd g hn G D;go_wp2_with fail;refine I.mono ?_;rintro f x3⟨rfl,x⟩;have B:=af (aj p x);rw[←ae F];clear x I;go_wp2
   go_ret2
   exact⟨by rw[ae r];rfl,B⟩
  .
   have hd:fH [e] l=(aK l e,[]):=(by rw[IY,a0e j]);have r:=af (lj E hd j);have Q:decide (aK l e=0)=false:=a0m j;clear hd D;generalize aK l e=q at *;go_wp2
   go_ret2
   exact⟨by rw[ae r];rfl,p⟩
end
section
variable {b c g k n:Nat}{x y:ByteArray}
def qj(w:World)(g:Nat)(vs:List Value)(o:Nat):setMany w g o vs=w.setCells g o vs:=by
 induction vs generalizing w o with
 | nil=>rfl
 | cons v vs ih=>exact ih _ _
def Kg{P:Program}(w:World)(t e ty:TypeId)(z:Value)(l:P.underlying t=some (.slice e))(m:∀w,(zeroValue e).run P w = .ok z w)(f:∀u∈z.cells.toList,u.oneCell'=true)(b o n c:Nat)(k:n=1)
  (g:∀j,j<z.cells.size->(w.cell? ⟨b,o+j,none⟩).isSome=true) (h:∀j,j<z.cells.size->w.frozen? ⟨b,o+j,none⟩=false) :
  (Builtin.clear_ #[t] ty #[.slice (some ⟨b,o,none⟩) n c]).run P w = .ok (.tuple #[]) (w.setCells b o z.cells.toList):=by
 subst k;have d:(Builtin.zeroCells z.cells 1).toList=z.cells.toList:=by
  apply a2k
  . simp[Builtin.zeroCells]
  .
   intro i a1 a2;have:i<z.cells.size:=by simpa using a2
   simp[Builtin.zeroCells,a1g this];rw[getElem!_pos z.cells i this]
 have a:=run_storeCells_cells (P:=P) b o z.cells.toList 0 w (by simpa using g) (by simpa using h) f;simp only[a1d]at a;simp[Builtin.clear_,a1T l,m,d,a]
def PD{w:World}{l:List En}{e:En}{m:Nat}(o:l.length=m)(p:m+1=n)(h:cO w b (.slice g n c) (l++[e])):cO w b (.slice g m c) l:=by
 subst o p;rcases h.2 with⟨e0,_⟩|⟨g',cap,a,e0,i,h2,d,j,k,f⟩
 . cases e0
 .
  simp only[a0L,a0l,a0A,a0Q]at e0;obtain⟨rfl,_,rfl⟩:=e0;rw[a0i]at d f;refine⟨dm bf l,.inr ⟨g,c,a,rfl,i,h2,by simp at d;omega,j,k,?_⟩⟩;have e1:(l.flatMap bu).length=l.length*8:=dm bf l;have e2:(l.flatMap bu).take (l.length*8)=l.flatMap bu:=a0t (by rw[e1];exact a0a _);have:=congrArg (List.take (l.length*8)) f;rw[a2X,a1B,a1n (by rw[e1];exact a0a _),e2]at this;rw[←this]
  congr 1
  simp<;>omega
def ND(l:List En)(k n:Nat)(a:l.length=n)(e:k<n)(z:En):BQ (BQ (l.flatMap bu) (k*8) ((l.drop (k+1)).flatMap bu)) ((k+(n-(k+1)))*8) (bu z)=(l.eraseIdx k++[z]).flatMap bu:=by
 have hd:=nK (k:=k+1) a;have b:(l.flatMap bu).length=n*8:=by rw[dm bf,a]
 have d:(l.flatMap bu).take (k*8)=(l.take k).flatMap bu:=by
  rw[p6 l k,a1n (by rw[take_len a (by omega)];exact a0a _),a0t (by rw[take_len a (by omega)];exact a0a _)]
 have c:=take_len (l:=l) (k:=k) a (by omega);have e1:((l.take k).flatMap bu++(l.drop (k+1)).flatMap bu).length=(k+(n-(k+1)))*8:=by rw[a0i,c,hd];omega
 have e2:((l.take k).flatMap bu++(l.drop (k+1)).flatMap bu++(l.flatMap bu).drop (k*8+(n-(k+1))*8)).take ((k+(n-(k+1)))*8)=(l.take k).flatMap bu++(l.drop (k+1)).flatMap bu:=by
  rw[a1n (by rw[e1];exact a0a _)];exact a0t (by rw[e1];exact a0a _)
 have e4:((l.take k).flatMap bu++(l.drop (k+1)).flatMap bu++(l.flatMap bu).drop (k*8+(n-(k+1))*8)).length=n*8:=by rw[a0i,e1,a04,b];omega
 have e3:((l.take k).flatMap bu++(l.drop (k+1)).flatMap bu++(l.flatMap bu).drop (k*8+(n-(k+1))*8)).drop ((k+(n-(k+1)))*8+8)=[]:=a2R (by rw[e4];omega);rw[BR _ _ (k*8) (by rw[hd,b];omega),d,hd,BR _ _ _ (by rw[e4,bf];omega),bf,e2,e3];rw[a05,a2T,a1B,a1B];simp
def Gx(g c n k:Nat)(l:List En)(b:Nat)(w:World)(a:l.length=n)(h:cO w b (.slice g n c) l)(P:n<=6)(p:k<n) :
  Calls prog 87 #[.slice g n c,k,.int .i64 ((k:Int)+1)] w fun f w'=>f = .returned (.slice g (k+(n-(k+1))) c)/\cO w' b (.slice g (k+(n-(k+1))) c) (l.eraseIdx k)/\Below b w w':=by
 have v:=cE
 obtain⟨i0,F,N,u,O⟩:=a0p Tryz.infoEnt;obtain⟨_,_,e,B,t⟩:=h.formN a;cases e
 unfold maxLen at t;obtain⟨A,Q,s⟩:=xF (b:=b) (g:=g) a B k p;have q:=af (nK (k:=k+1) a);have hd:cO w.drew b (.slice g n c) l:=h;have r:Hid (∀j,j<((l.drop (k+1)).flatMap bu).length->(w.drew.cell? ⟨g,0+k*8+j,none⟩).isSome=true/\w.drew.frozen? ⟨g,0+k*8+j,none⟩=false):=fun j o=>by
  rw[nK a]at o;have d:=bj.own a hd;refine⟨?_,a2O d _⟩;rw[a1f d _ (by omega),List.getElem?_eq_getElem (by rw[dm bf,a];omega)];rfl
 obtain⟨W1,hW1⟩:∃W,W=w.drew.setCells g (0+k*8) ((l.drop (k+1)).flatMap bu):=⟨_,rfl⟩;have m:Below b w W1:=by rw[hW1,←qj];exact kI (a0c _ _).drew h.below.1 _ _
 have d:W1.ownsRow b 26 8 (.slice g n c) n (BQ (l.flatMap bu) (k*8) ((l.drop (k+1)).flatMap bu)):=by
  rw[hW1,←qj,a0G];exact om _ _ (bj.own a hd)
 have E:∀ty,(Builtin.clear_ #[31] ty #[.slice (some ⟨g,(k+(n-(k+1)))*8,none⟩) (n-(k+(n-(k+1)))) (c-(k+(n-(k+1))))]).run prog W1 = .ok (.tuple #[]) (W1.setCells g ((k+(n-(k+1)))*8) (Value.cells (.agg ())).toList):=fun ty=>by
  refine Kg W1 _ _ ty (.agg ()) a1h (fun w=>by kernel_rfl) (gP default) g _ _ _ (by omega) (fun j o=>?_) (fun j o=>a2O d _);have G:j<8:=o;rw[a1f d _ (by omega),List.getElem?_eq_getElem (by rw[d.1];omega)];rfl
 have i:Hid (cO (W1.setCells g ((k+(n-(k+1)))*8) (Value.cells (.agg ())).toList) b (.slice g (k+(n-(k+1))) c) (l.eraseIdx k)/\Below b w (W1.setCells g ((k+(n-(k+1)))*8) (Value.cells (.agg ())).toList)):=by
  rw[←qj];refine⟨PD (e:=default) (oS a p) (n:=n) (by omega) ?_,kI m h.below.1 _ _⟩;have h2:=om (bu default) ((k+(n-(k+1)))*8) d;rw[ND l k n a p default]at h2;show World.ownsRow _ _ _ _ _ _ _;rw[a0i,oS a p,show k+(n-(k+1))+[(default:En)].length=n by simp;omega];exact h2
 have y:=af hW1;have x:=af hd;have J:(k:Int)<(n:Int):=by omega
 have K:(k:Int)<=(c:Int):=by omega
 have H:0<=(k:Int)+1:=by omega
 have I:(k:Int)+1<=(n:Int):=by omega
 have L:(n:Int)<=6:=by omega
 have C:(n:Int)<=(c:Int):=by omega
 have D:(c:Int)<=9223372036854775807:=by omega
 have M:¬ c=k+(n-(k+1)):=by omega
 have z:¬ (k:Int)=(k:Int)+1:=by omega
 clear h a hW1 d m hd;go_enter func87,ntmps87;go_wp2_with fail
 go_region_law (refine step_append_room rfl (.tmp 22) (.tmp 25) 31 rfl 26 i0 8 a1h F u g 0 k c (by simp[Act.eval,Act.put]) A (n-(k+1)) (c-(k+1)) ((l.drop (k+1)).flatMap bu) (by simp[Act.eval,Act.put]) q (s _ (ae x)) (kz _) (by omega) r ?_;rw[←ae y])
 go_wp2;go_ret;exact⟨rfl,i⟩
def I8{l:List En}(h:atN l x=(k:Int)):mf x l=(0,l.eraseIdx k):=by unfold mf;rw[a0e (by omega),h,a0n]
def NK{l:List En}(h:atN l x = -1):mf x l=(2,[]):=by unfold mf;rw[a0d (by omega)]
def AF(x:ByteArray)(v:Value)(l:List En)(bx b:Nat)(w:World)(h:cO w b v l)(E:bi l=true)(hb:b<=w.heap.size)(D:w.cell? ⟨bx,0,none⟩=some (.string x)) :
  Calls prog 86 #[v,.pointer bx] w (qG b w (mf x l)):=by
 obtain⟨n,hn⟩:∃n,l.length=n:=⟨_,rfl⟩;obtain⟨a,c,rfl,F,_⟩:=h.formN hn;have C:(n:Int)<=6:=by have:=(ct E).2;omega
 have s:=af (mH a c l n hn x w (bv hn h) (by omega));have t:=af h;have u:=af hn;have z:=af hb;clear h hn hb;go_enter func86,ntmps86;go_wp2_with fail;refine s.mono ?_;rintro f x2⟨rfl,d⟩;have i:=af (d.mono z);have j:=af (t.later d (a0a _));clear s d t D;rcases su l x with e|⟨k,A,e⟩
 .
  have o:Hid ((mf x l).1=2):=by show _=_;rw[NK e]
  rw[vf (by omega)];clear e;go_wp2
  go_ret2
  exact mF o (by decide) i
 .
  have o:=af (I8 e);rw[qZ (by omega),e];have r:k<n:=by have:=ae u;omega
  have B:(k:Int)<(n:Int):=by omega
  obtain⟨g,rfl⟩:=j.somes (by omega);have CD:=af (Gx g c n k l b x2 u j (by omega) r);clear e A;go_wp2_with fail;refine CD.mono ?_;rintro f x3⟨rfl,y,m⟩;have q:=af y;have p:=af (i.trans m);clear y m CD;go_wp2
  go_ret2
  refine⟨⟨.slice g (k+(n-(k+1))) c,?_,⟨_,_,_,rfl⟩,fun _=>?_⟩,p⟩
  . rw[ae o];rfl
  . rw[ae o];exact q
def AG(s:ByteArray)(d:List En->Int×List En)(bx:Nat)(m:Int)(w:World)(R:s.size<=1048576)(I:w.cell? ⟨2,0,none⟩=some (.int .i64 m))(M:j9 w)(L:dp w)
  (hd:∀l,bi l=true->(d l).1=0->bi (d l).2=true)
  (X:∀W v l,cV s=some l->Below w.heap.size w W->cO W w.heap.size v l->Calls prog 86 #[v,.pointer bx] W (qG w.heap.size W (d l))) :
  Calls prog 21 #[s,.func (.func 86) #[] #[.pointer bx]] w fun f w'=>f = .returned (edR s d)/\Below w.heap.size w w':=by
 have C:=af (bS s m w R I M L);have Z:=af I;have P:=af (zB0 _ _ I);have Y:=af (fun W (hb:Below w.heap.size w W)=>(hb.cell (p:=⟨2,0,none⟩) P).trans Z);have V:=af (fun W (hb:Below w.heap.size w W)=>M.later hb);have J:=af (fun W (hb:Below w.heap.size w W)=>L.later hb);have U:=af X;have Hd:=af hd;have HS:=af R;clear R I M L hd X;go_enter func21,a4c;go_wp2_with fail;refine C.mono ?_;rintro f x1⟨⟨v,rfl,b⟩,h⟩;have B:=af h;clear C;rcases z:cV s with _|l
 .
  have D:=af (ju z d);clear z b h;go_wp2
  go_ret2
  exact⟨by rw[ae D];rfl,B⟩
 .
  rw[z]at b;have CD:=af (ae U x1 v l z h b);have K:=af z;clear z b h U;go_wp2_with fail;refine CD.mono ?_;rintro f x2⟨⟨v2,rfl,⟨a,n,c,rfl⟩,G⟩,E⟩;have o:=af (B.trans E);have A:=af (iy (d l).1 x2 (V _ (ae o)));have H:=af G;clear E G CD;obtain⟨q,hq⟩:∃q,d l=q:=⟨_,rfl⟩;have Hq:=af hq;rw[hq]at A H;rw[hq];clear hq;obtain⟨k,r⟩:=q;simp only at A H;simp only;obtain⟨FV,hFV⟩:∃x,cX k=x:=⟨_,rfl⟩;rw[hFV]at A;rw[hFV];clear hFV;go_wp2_with fail;refine A.mono ?_;rintro f x3⟨rfl,u⟩;have e:=af (aj o u);have j:=af u;clear u A;by_cases O:k=0
  .
   subst O;have y:bi r=true:=by have:=ae Hd l (eG K) (by rw[ae Hq]);rw[ae Hq]at this;exact this
   have Q:cO x2 w.heap.size (.slice a n c) r:=ae H rfl;obtain⟨N,hN⟩:∃n,r.length=n:=⟨_,rfl⟩;obtain⟨a',c',e',aa,_⟩:=Q.formN hN;cases e'
   have F:=Q.later j (a0a _);have h6:=(ct y).2;have T:=af (dM a c r n hN m x3 (bv hN F) (by omega) (by omega) (fun i hi=>dK y i (by omega)) (Y _ (ae e)) (V _ (ae e)) (J _ (ae e)));have D:=af (iY K Hq);clear y Q F h6 H j o;go_wp2_with fail;refine T.mono ?_;rintro f x4⟨rfl,g⟩;have t:=af (aj e g);clear g T;go_wp2
   go_ret2
   exact⟨by rw[ae D];rfl,t⟩
  .
   have D:=af (lj K Hq O);have S:=af (fun W=>jj s W (by have:=ae HS;omega));have hd:decide (k=0)=false:=a0m O;go_wp2_with fail;refine(S _).mono ?_;rintro f x4⟨rfl,g⟩;have t:=af (aj e g);clear g S;go_wp2
   go_ret2
   exact⟨by rw[ae D];rfl,t⟩
def AO(x:ByteArray)(w:World) :
  Calls prog 48 #[x] w fun f w'=>f = .returned (.func (.func 86) #[] #[.pointer w.heap.size])/\w'=w.alloc (.cells #[x] 9):=by
 go_enter func48,ntmps48;go_wp2;go_ret;exact⟨rfl,rfl⟩
def uO(s x:ByteArray)(m:Int)(w:World)(o:s.size<=1048576)(e:w.cell? ⟨2,0,none⟩=some (.int .i64 m))(n:j9 w)(j:dp w) :
  Calls prog 19 #[s,x] w fun f w'=>f = .returned (edR s (mf x))/\Below w.heap.size w w':=by
 have b:=af ((a0c w.heap.size w).alloc (a0a _) (.cells #[x] 9));have g:=(ay w #[x] 9).cell 0 _ rfl;have CD:=af (AG s (mf x) w.heap.size m _ o ((b.cell (p:=⟨2,0,none⟩) (zB0 _ _ e)).trans e) (n.later b) (j.later b) (fun _ h r=>Rt h r)
   (fun _ v l y a u=>AF x v l w.heap.size _ _ u (eG y) a.size ((a.cell (p:=⟨w.heap.size,0,none⟩) (zB0 _ _ g)).trans g)))
 clear o e n j g;go_enter func19,ntmps19;go_wp2_with fail;refine(AO x _).mono ?_;rintro f x1⟨rfl,i⟩;subst i;go_wp2_with fail;refine CD.mono ?_;rintro f x2⟨rfl,a⟩;have c:=af (aj b a);clear a CD b;obtain⟨t,k,d⟩:=ve s (mf x);have q:=af d;rw[d];clear d;go_wp2
 go_ret2
 exact⟨by rw[ae q];rfl,c⟩
end
section
variable {k:Nat}{x:ByteArray}
def Gs(a:List UInt8):cb a a=true:=by unfold cb;simp
def Ru{l:List En}(h:bi l=true){e:En}(a:e∈l):fi e=true:=((qF l).1 h).1 e a
def P9{l:List En}(h:bi l=true){e:En}(a:e∈l):aK l e=3:=by
 have b:fI l e.n=true:=by
  unfold fI;rw[List.any_eq_true];exact⟨e,a,Gs _⟩
 unfold aK;rw[a0d (Ru h a),a0d b]
def zg(l:List En)(e:En):(l++[e]).getD l.length default=e:=by simp[List.getD]
def MM{l:List En}{e:En}(h:bi l=true)(f:aK l e=0):bi (l++[e])=true/\edR (dC (l++[e])) (mf e.n) = .tuple #[.string (dC l),.int .i64 0]/\edR (dC (l++[e])) (fH [e]) = .tuple #[.string (dC (l++[e])),.int .i64 3]:=by
 have a:=(iv h e).2 f;have d:l.length<(l++[e]).length:=by simp
 have c:=I0 a d;rw[zg]at c;refine⟨a,iY (kY a) ?_,lj (r:=[]) (kY a) ?_ (by decide)⟩
 . rw[I8 c,List.eraseIdx_append_of_length_le (a0a _)];simp
 . have b:=P9 a (e:=e) (by simp);unfold fH;rw[a0e (by rw[b];decide),b]
open Go.RowKit
def CO(a b:Option Addr)(c d n:Nat)(l:List En)(w:World)(O:l.length=n)(L:iA w a l)(hb:iA w b l)(T:n<=1000) :
  Ds 20 #[.slice a n c,.slice b n d] w (.bool true):=by
 have N:=cE
 have P:=af L;have Q:=af hb;have x:=af O;have U:(n:Int)<=1000:=by omega
 clear L hb O T;go_enter func20,ntmps20;go_wp2_with fail
 go_loopw [5] (fun i wr=>∃k:Nat,k<=n/\i = .int .i64 k/\Below w.heap.size w wr) (fun i _=>n-(intOf i).toNat)
 case atStart=>exact⟨0,a0g _,rfl,a0c _ _⟩
 case round=>
  obtain⟨k,S,rfl,m⟩:=hrel;by_cases s:k<n
  .
   have u:(k:Int)<(n:Int):=(by omega);have z:=af s;obtain⟨g,o,rfl,r,M⟩:=ae P (by rw[ae x];omega);obtain⟨g',o',rfl,f,t⟩:=ae Q (by rw[ae x];omega);obtain⟨c0,c1,c2,c3,c4,A,B,C⟩:=M k (by rw[ae x];exact s);obtain⟨D,E,F,G,H,I,J,K⟩:=t k (by rw[ae x];exact s);have q:∀(h j:Nat) (v:Value),h<w.heap.size->w.cell? ⟨h,j,none⟩=some v->wr.cell? ⟨h,j,none⟩=some v:=fun h j v R e=>(m.cell (p:=⟨h,j,none⟩) R).trans e
   replace c0:=q _ _ _ r c0
   replace c1:=q _ _ _ r c1
   replace c2:=q _ _ _ r c2
   replace c3:=q _ _ _ r c3
   replace c4:=q _ _ _ r c4
   replace A:=q _ _ _ r A
   replace B:=q _ _ _ r B
   replace C:=q _ _ _ r C
   replace D:=q _ _ _ f D
   replace E:=q _ _ _ f E
   replace F:=q _ _ _ f F
   replace G:=q _ _ _ f G
   replace H:=q _ _ _ f H
   replace I:=q _ _ _ f I
   replace J:=q _ _ _ f J
   replace K:=q _ _ _ f K
   have y:=af m;clear M t q m S s r f;generalize l.getD k default=en at *;go_wp2_with fail
   go_quiet (fail)
   go_wp2_with fail;go_roundw
   case rel=>exact⟨k+1,by have:=ae z;omega,by go_num,below_drewN y _⟩
   case measure=>have:=ae z;simp[intOf];omega
  .
   have u:¬ (k:Int)<(n:Int):=(by omega);go_wp2;go_ret;exact⟨rfl,m⟩
def Ky{w:World}{a:Option Addr}{l:List En}(h:iA w a l)(k:Nat):iA w a (l.take k):=by
 intro b;have j:0<l.length:=by
  rw[a0u]at b;omega
 obtain⟨g,o,e,d,c⟩:=h j;refine⟨g,o,e,d,fun i f=>?_⟩;rw[a0u]at f;have e2:(l.take k).getD i default=l.getD i default:=by
  simp only[List.getD,List.getElem?_take];rw[a0d (by omega)]
 rw[e2];exact c i (by omega)
def yt(a:Option Addr)(len cap:Nat)(zs:List Int)(m:Int)(w:World)(w0:Ch .u8 w a len cap zs)(hm:w.cell? ⟨2,0,none⟩=some (.int .i64 m))(hg:j9 w)(hO:dp w) :
  Ds 5 #[.slice a len cap] w (.bool true):=by
 have a9:=cE
 obtain⟨⟨z,Q⟩,hc,G⟩:=Iw w0;have a0:=af (nJ a len cap z w Q hc G);have j:=af (fun W (hb:Below w.heap.size w W)=>a0b ((hb.cell (p:=⟨2,0,none⟩) (zB0 _ _ hm)).trans hm) (a0b (hg.later hb) (hO.later hb)));unfold maxLen at G;clear w0 Q hm hg hO;by_cases hl:(len:Int)<=1048576
 .
  go_enter func5,ntmps5;go_wp2_with fail;refine a0.mono ?_;rintro e w1⟨⟨S,en,rfl,ba,a8⟩,a3⟩;have V:=af a3;clear a3 a0 G hc;have ac:=af ba;have v:=af a8;have T:=af (fun W (g:Below w.heap.size w W)=>nW S en m W (by have:=ae ac;omega) (by have:=ae v;omega) (by have:=ae v;omega) (j W g).1 (j W g).2.1 (j W g).2.2);have U:=af (fun W=>xT S en W (by have:=ae ac;omega) (by have:=ae v;omega) (by have:=ae v;omega));clear ba a8;obtain⟨nE,hnE⟩:∃x,w1.heap.size=x:=⟨_,rfl⟩;have f:=af (V.alloc V.size (.cells en 26));have E2:=af (ay w1 en 26);rw[hnE]at E2;clear V;rcases L:cV S with _|l
  .
   have I:=af (ju L (fH [en]));clear L;rw[ae I]at T U;clear I;have u:=E2.cells (n:=8) rfl;go_wp2_with fail;refine(T _ (ae f)).mono ?_;rintro e w3⟨rfl,b⟩;try rw[hnE]
   clear hnE;generalize w1.alloc (.cells en 26)=w2 at *;have o:=af (aj f b);have E3:=af (E2.later b E2.1);clear b f E2 u;have u:=E3.cells (n:=8) rfl;go_wp2_with fail;refine(U _).mono ?_;rintro e w4⟨rfl,c⟩;have q:=af (aj o c);have E4:=af (E3.later c E3.1);clear c o E3 u;go_wp2;all_goals
    go_ret;exact⟨rfl,q⟩
  .
   by_cases hk:(fH [en] l).1=0
   .
    skip
    have hr:aK l en=0:=by
     by_cases hc:aK l en=0
     . exact hc
     . rw[MO hc]at hk;exact absurd hk hc
    have M:=eG L;obtain⟨al,a7,a2⟩:=MM M hr;have I:Hid (edR S (fH [en]) = .tuple #[.string (dC (l++[en])),.int .i64 0]):=iY L (MN hr);have HZ:=af M;have D:=af al;have bs:=af L;obtain⟨n,hn⟩:∃n,l.length=n:=⟨_,rfl⟩;obtain⟨N,hN⟩:∃N,(l++[en]).length=N:=⟨_,rfl⟩;have a1:N=n+1:=by rw[←hN,←hn];simp
    have O:=af hn;have J:=af hN;have C:=af a1;have ab:Hid (n<=6):=by show _<=_;have:=(ct M).2;omega
    have bk:=kX (l++[en]);have ao:=af (fun W (g:Below w.heap.size w W)=>bS S m W (by have:=ae ac;omega) (j W g).1 (j W g).2.1 (j W g).2.2);have R:=af (fun W (g:Below w.heap.size w W)=>bS (dC (l++[en])) m W (by omega) (j W g).1 (j W g).2.1 (j W g).2.2);have CD:=af (fun W (g:Below w.heap.size w W)=>uO (dC (l++[en])) en.n m W (by omega) (j W g).1 (j W g).2.1 (j W g).2.2);have CA:=af (fun W (g:Below w.heap.size w W)=>nW (dC (l++[en])) en m W (by omega) (by have:=ae v;omega) (by have:=ae v;omega) (j W g).1 (j W g).2.1 (j W g).2.2);rw[L]at ao;rw[kY al]at R;rw[a7]at CD;rw[a2]at CA;obtain⟨X,hX⟩:∃x,dC (l++[en])=x:=⟨_,rfl⟩;obtain⟨P,hP⟩:∃x,dC l=x:=⟨_,rfl⟩;rw[ae I]at T U;have HP:=af hP;rw[hX]at T U R CD CA;rw[hP]at CD;clear L hk hr M al a7 a2 hn hN a1 bk hX hP I D;have u:=E2.cells (n:=8) rfl;go_wp2_with fail;refine(T _ (ae f)).mono ?_;rintro e w3⟨rfl,b⟩;try rw[hnE]
    clear hnE;generalize w1.alloc (.cells en 26)=w2 at *;have o:=af (aj f b);have E3:=af (E2.later b E2.1);clear b f E2 u;have u:=E3.cells (n:=8) rfl;go_wp2_with fail;refine(U _).mono ?_;rintro e w4⟨rfl,c⟩;have q:=af (aj o c);have E4:=af (E3.later c E3.1);clear c o E3 u;go_wp2_with fail;refine(ao _ (ae q)).mono ?_;rintro e w5⟨⟨v5,rfl,H⟩,ad⟩;have Y:=af (aj q ad);have E5:=af (E4.later ad E4.1);have H:cO w5 w4.heap.size v5 l:=H;obtain⟨a5,c5,rfl,bd,_⟩:=H.formN O;have a4:(n:Int)<=(c5:Int):=(by omega);have O5:=af H;clear H bd ad q E4;go_wp2_with fail;refine(R _ (ae Y)).mono ?_;rintro e w6⟨⟨v6,rfl,A⟩,K⟩;have Z:=af (aj Y K);have E6:=af (E5.later K E5.1);have O6:=af (O5.later K (a0a _));have A:cO w6 w5.heap.size v6 (l++[en]):=A;obtain⟨a6,c6,rfl,be,_⟩:=A.formN J;have bn:(n:Int)<=(c6:Int):=by have:=ae C;omega
    obtain⟨g6,rfl⟩:=A.somes (by rw[ae J,ae C];omega);have Q6:=af A;clear A be K Y E5 O5;have u:=E6.cells (n:=8) rfl;go_wp2_with fail;refine(CD _ (ae Z)).mono ?_;rintro e w7⟨rfl,E⟩;have aa:=af (aj Z E);have E7:=af (E6.later E E6.1);have O7:=af (O6.later E (a0a _));have Q7:=af (Q6.later E (a0a _));clear E Z E6 u O6 Q6;have u:=E7.cells (n:=8) rfl;go_wp2_with fail;refine(CA _ (ae aa)).mono ?_;rintro e w8⟨rfl,F⟩;have B:=af (aj aa F);have E8:=af (E7.later F E7.1);have O8:=af (O7.later F (a0a _));have Q8:=af (Q7.later F (a0a _));clear F aa E7 u O7 Q7;have hq:=kj J Q8 n (by have:=ae C;omega);rw[show(l++[en]).getD n default=en by rw[←ae O];exact zg l en]at hq;obtain⟨q0,q1,q2,q3,q4,q5,q6,q7⟩:=hq;have ht:iA w8 (some ⟨g6,0,none⟩) l:=by
     have:=Ky (bv J Q8) n;rwa[←ae O,a3x rfl]at this
    have CP:=af (fun W (hb:Below w8.heap.size w8 W)=>dM a5 c5 l n O m W ((bv O O8).later hb) (by have:=ae ab;omega) a4 (fun i hi=>dK HZ i (by rw[ae O];exact hi)) (j W (aj B hb)).1 (j W (aj B hb)).2.1 (j W (aj B hb)).2.2);rw[ae HP]at CP;have cB:=fun d os=>Calls.regrown_of (w:=w8) (d:=d) (os:=os) (CO (some ⟨g6,0,none⟩) a5 c6 c5 n l _ O (ht.later (below_regrown w8 d os)) ((bv O O8).later (below_regrown w8 d os)) (by have:=ae ab;omega));have cP:=fun d os=>Calls.regrown_of (w:=w8) (d:=d) (os:=os) (CP _ (below_regrown w8 d os));have k0:=zR0 q0;have k1:=zR0 q1;have k2:=zR0 q2;have k3:=zR0 q3;have k4:=zR0 q4;have k5:=zR0 q5;have k6:=zR0 q6;have k7:=zR0 q7;have j0:=zR0 (E8.cell 0 _ rfl);have j1:=zR0 (E8.cell 1 _ rfl);have j2:=zR0 (E8.cell 2 _ rfl);have j3:=zR0 (E8.cell 3 _ rfl);have j4:=zR0 (E8.cell 4 _ rfl);have j5:=zR0 (E8.cell 5 _ rfl);have j6:=zR0 (E8.cell 6 _ rfl);have j7:=zR0 (E8.cell 7 _ rfl);have b0:(n:Int)<=6:=by have:=ae ab;omega
    have e1:IntKind.i64.wrap ((n:Int)+1)=(n:Int)+1:=by rw[a0V];omega
    have e2:((N:Int) == (n:Int)+1)=true:=by have:=ae C;simp;omega
    have e3:(n:Int)<(N:Int):=by have:=ae C;omega
    clear q0 q1 q2 q3 q4 q5 q6 q7 ht CP;go_wp2_with fail;refine wp_region_quiet_below a9 (by kernel_rfl) ?_;repeat (first|go_big_quiet_step (fail)|go_big_quiet_step (exact cB _ _)|go_big_quiet_step (exact cP _ _))
    refine a1w ?_;intro zw bl;obtain⟨⟨dq,osq⟩,bb⟩:=bl;have D:=below_regrown w8 dq osq;rw[←bb]at D;have bc:=af (aj B D);clear bb D k0 k1 k2 k3 k4 k5 k6 k7 j0 j1 j2 j3 j4 j5 j6 j7 cB cP B E8 O8 Q8 e1 e2 e3;go_wp2;go_ret;exact⟨rfl,bc⟩
   .
    have I:Hid (edR S (fH [en]) = .tuple #[S,.int .i64 (fH [en] l).1]):=lj (r:=(fH [en] l).2) L rfl hk;obtain⟨k,hkk⟩:∃k,(fH [en] l).1=k:=⟨_,rfl⟩;rw[hkk]at I hk;clear hkk L;rw[ae I]at T U;clear I;have u:=E2.cells (n:=8) rfl;go_wp2_with fail;refine(T _ (ae f)).mono ?_;rintro e w3⟨rfl,b⟩;try rw[hnE]
    clear hnE;generalize w1.alloc (.cells en 26)=w2 at *;have o:=af (aj f b);have E3:=af (E2.later b E2.1);clear b f E2 u;have u:=E3.cells (n:=8) rfl;go_wp2_with fail;refine(U _).mono ?_;rintro e w4⟨rfl,c⟩;have q:=af (aj o c);have E4:=af (E3.later c E3.1);clear c o E3 u;go_wp2;all_goals
     go_ret;exact⟨rfl,q⟩
 . go_enter func5,ntmps5;go_wp2;go_ret;exact⟨rfl,a0c _ _⟩
end
end Go.Proofs.YtfannoajibacnaaGreatDoor
