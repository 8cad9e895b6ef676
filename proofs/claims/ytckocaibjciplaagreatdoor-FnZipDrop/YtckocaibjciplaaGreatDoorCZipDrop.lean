/- Texts. -/
import Derived.Test.YtckocaibjciplaaGreatDoorM47
import Derived.Deep.RegionHeld3
import Derived.Deep.DrawnRows
import Derived.Lib.AppendZerosOnto
set_option linter.all false
set_option maxRecDepth 100000
set_option maxHeartbeats 3200000
namespace Go.Proofs.YtckocaibjciplaaGreatDoor
open Go.Proofs.Tryz
open Go.RowKit Corb
variable {b p:Nat}{s:ByteArray}{v0 v1 v2:Value}{w w':World}
attribute [local go_sem ↓] Go.wp_at_zero Go.wp_at_succ
end Go.Proofs.YtckocaibjciplaaGreatDoor
namespace Go.Proofs.YtckocaibjciplaaGreatDoor
open Go.Proofs.Tryz
open Go.RowKit
variable {B G L b g i j k n o:Nat}{a:Option Addr}{f:Nat×Nat}{l:List Int}{m:Nat->Nat}{t t':TypeId}{v vc vl vs y:Value}{w w' w1 x y':World}{xs:List Value}
open Corb
section
variable {α : Type} {f : α → List Value} {c : Nat}
def jV(a:∀x,(f x).length=c)(l:List α):(l.flatMap f).length=l.length*c:=by
 induction l with
 | nil=>simp
 | cons x l ih=>simp only[a0Y,a0j,a,ih,a0C];rw[a1z,a3a,a2E]
def setMany(w:World)(g:Nat):Nat->List Value->World
 | _,[]=>w
 | o,v :: vs=>setMany (w.setCell ⟨g,o,none⟩ v) g (o+1) vs
def Eh(xs:List Value):Nat->List Value->List Value
 | _,[]=>xs
 | o,v :: vs=>Eh (xs.set o v) (o+1) vs
def IL(vs xs:List Value)(o:Nat)(h:o+vs.length<=xs.length):Eh xs o vs=xs.take o++vs++xs.drop (o+vs.length):=by
 induction vs generalizing xs o with
 | nil=>simp[Eh]
 | cons v vs ih=>
  simp only[a0C]at h;rw[Eh,ih _ _ (by rw[a1T];omega)];have e1:(xs.set o v).take (o+1)=xs.take o++[v]:=by
   rw[List.take_set];apply List.ext_getElem?;intro i;by_cases b:i<o
   . simp[List.getElem?_set,List.getElem?_append,List.getElem?_take,b];rw[a0e (by omega),a0d (by omega),a0d (by omega)]
   .
    by_cases a:i=o
    . subst a;simp[List.getElem?_set,List.getElem?_append,a0v];rw[a0d (by omega),a0e (by omega),show i-min i xs.length=0 by omega];rfl
    . rw[List.getElem?_eq_none (by simp;omega),List.getElem?_eq_none (by simp;omega)]
  have e2:(xs.set o v).drop (o+1+vs.length)=xs.drop (o+(vs.length+1)):=by
   rw[List.drop_set,a0d (by omega)]
   congr 1;omega
  rw[e1,e2];simp
variable {T : TypeId}
def tF{w:World}{base g cap n:Nat}{xs:List Value}(vs:List Value)(o:Nat)(h:w.ownsRow base T c (.slice g n cap) n xs):(setMany w g o vs).ownsRow base T c (.slice g n cap) n (Eh xs o vs):=by
 induction vs generalizing w o xs with
 | nil=>exact h
 | cons v vs ih=>exact ih (o+1) (a2N h o v).1
def uN{b g:Nat}{w0 w:World}(hb:Below b w0 w)(a:b<=g)(vs:List Value)(o:Nat):Below b w0 (setMany w g o vs):=by
 induction vs generalizing w o with
 | nil=>exact hb
 | cons v vs ih=>exact ih (ai hb a v) (o+1)
end
end Go.Proofs.YtckocaibjciplaaGreatDoor
set_option maxHeartbeats 12800000
namespace Go.Proofs.YtckocaibjciplaaGreatDoor
open Go.Proofs.Tryz
open Corb
variable {T c s x:ByteArray}{b i k m:Nat}{u:List UInt8}{w w':World}
open Go.RowKit
def Fi(l:List En)(x:ByteArray):atN l x = -1∨∃k,k<l.length/\atN l x=(k:Int):=by
 unfold atN;cases h:l.findIdx? (fun e=>e.n.data.toList == x.data.toList)with
 | none=>exact .inl rfl
 | some k=>exact .inr ⟨k,(List.findIdx?_eq_some_iff_getElem.1 h).1,rfl⟩
def PM(l:List En):bF l=true<->(∀e∈l,je e=true)/\l.Pairwise goes/\l.length<=6:=by
 rw[oL,List.pairwise_iff_getElem];have g:∀i (a:i<l.length),l.getD i default=l[i]:=fun i a=>by simp[List.getD,a]
 constructor
 .
  intro h;refine⟨fun e k=>?_,fun i j a b d=>?_,?_⟩
  . obtain⟨i,a,rfl⟩:=a1I k;have:=((gO a).1 (h i a)).1;rwa[g i a]at this
  . have:=((gO b).1 (h j b)).2.1 i d;rw[g i a,g j b]at this;exact this
  .
   rcases a1l 6 l.length with c|c
   . have:=((gO c).1 (h 6 c)).2.2;omega
   . exact c
 . rintro⟨f,h2,m⟩ i a;refine(gO a).2 ⟨by rw[g i a];exact f _ (a2e _),fun j b=>?_,by omega⟩;rw[g i a,g j (by omega)];exact h2 j i (by omega) a b
def sW{l:List En}(h:bF l=true)(k:Nat):bF (l.eraseIdx k)=true:=by
 obtain⟨b,h2,c⟩:=(PM l).1 h;have a:=List.eraseIdx_sublist l k;exact(PM _).2 ⟨fun e d=>b e (a.subset d),h2.sublist a,a0E a.length_le c⟩
def Bj{l:List En}(h:atN l x=(k:Int)):k<l.length/\(l.getD k default).n.data.toList=x.data.toList:=by
 unfold atN at h
 split at h
 .
  rename_i q hq;obtain rfl:q=k:=by omega
  rw[List.findIdx?_eq_some_iff_getElem]at hq;obtain⟨a,h2,_⟩:=hq;exact⟨a,by simpa[List.getD,a]using h2⟩
 . omega
def jd(x:ByteArray)(l:List En):Int×List En:=if atN l x<0 then(2,[])else(0,l.eraseIdx (atN l x).toNat)
def Qj{l:List En}(h:bF l=true)(a:(jd x l).1=0):bF (jd x l).2=true:=by
 unfold jd at a ⊢
 split
 . rename_i hc;rw[a0d hc]at a;cases a
 . exact sW h _
def Cb(e:En)(b:Nat)(x:ByteArray)(w:World)(hb:w.cell? ⟨b,0,none⟩=some (.string x)) :
  Calls prog 110 #[.agg e,.pointer b] w fun f w'=>f = .returned (.bool (e.n.toList == x.toList))/\Below w.heap.size w w':=by
 have a:b<w.heap.size:=World.block_lt_of_cell? _ _ hb;have g:¬ b=w.heap.size:=by omega
 have c:(w.alloc (.cells e 34)).cell? ⟨b,0,none⟩=some (.string x):=by
  rw[World.cell?_alloc_past _ _ _ a];exact hb
 clear hb;go_enter func110,ntmps110;go_wp2;go_ret;exact⟨rfl,cC⟩
def xC(a:Option Addr)(cap:Nat)(l:List En)(n:Nat)(C:l.length=n)(b:Nat)(x:ByteArray)(w:World)(h:jI w a l)(R:(n:Int)<=1048576)(hb:w.cell? ⟨b,0,none⟩=some (.string x)) :
  Ds 109 #[.slice a n cap,.func (.func 110) #[] #[.pointer b]] w (.int .i64 (atN l x)):=by
 have K:=af h;have t:=af (fun W (z:Below w.heap.size w W)=>(z.cell (p:=⟨b,0,none⟩) (World.block_lt_of_cell? _ _ hb)).trans hb);have E:=af (fun k (B:k<l.length)=>@uq l x k B);have F:=af (@qe l x);rw[C]at E F;have G:=af C;clear h C hb;go_enter func109,ntmps109;go_wp2_with fail
 go_loopw [5,8] (fun _ i wr=>∃k:Nat,k<=n/\i = .int .i64 k/\(∀j,j<k->¬ (l.getD j default).n.toList=x.toList)/\Below w.heap.size w wr) (fun _ i _=>n-(intOf i).toNat)
 case atStart=>exact⟨0,a0g _,rfl,fun j I=>absurd I (by omega),a0c _ _⟩
 case round=>
  obtain⟨k,B,rfl,f,m⟩:=hrel;have c:=af f;have d:=af m;clear f m;by_cases q:k<n
  .
   have P:(k:Int)<(n:Int):=(by omega);obtain⟨g,o,rfl,Q,H⟩:=K.later d (by have:=ae G;omega);obtain⟨c0,c1,c2,c3,c4,M,N,O⟩:=H k (by have:=ae G;omega);have r:=af q;have v:=af (ae E k q (ae c));have J:=af (fun W (z:Below w.heap.size w W)=>Cb (l.getD k default) b x W (t W z));have y:Hid (¬ (l.getD k default).n.toList=x.toList->∀j,j<k+1->¬ (l.getD j default).n.toList=x.toList):=by
    intro e j I;by_cases A:j=k
    . rw[A];exact e
    . exact c j (by omega)
   clear H B c q;generalize l.getD k default=en at *;go_wp2_with fail;refine(J _ (ae d)).mono ?_;rintro e z1⟨rfl,s⟩;have D:=af (aj d s);clear s c0 c1 c2 c3 c4 M N O;by_cases e:en.n.toList=x.toList
   . have u:=af (ae v e);rw[show(en.n.toList == x.toList)=true by simp only[a2z];exact e];go_wp2;go_ret;exact⟨by rw[ae u];rfl,D⟩
   .
    have L:=af (ae y e);rw[show(en.n.toList == x.toList)=false by simp only[a0Z,ne_eq];exact e];clear e;go_wp2;go_roundw
    case rel=>exact⟨k+1,by have:=ae r;omega,by go_num,L,D⟩
    case measure=>have:=ae r;simp[intOf];omega
  .
   obtain rfl:k=n:=by omega
   have u:=af (ae F (ae c));go_wp2;go_ret;exact⟨by rw[ae u];rfl,d⟩
def MU(k:Int):Value:=if k<0 then .tuple #[.int .i64 0,.iface 99 (.agg #[.int .i64 2])]else .tuple #[k,.nilIface]
def Ik{k:Int}(h:k<0):MU k = .tuple #[.int .i64 0,.iface 99 (.agg #[.int .i64 2])]:=a0d h
def Cd{k:Int}(h:¬ k<0):MU k = .tuple #[k,.nilIface]:=a0e h
def zP(a:Option Addr)(cap:Nat)(l:List En)(n:Nat)(i:l.length=n)(x:ByteArray)(w:World)(h:jI w a l)(j:(n:Int)<=1048576) :
  Ds 68 #[.slice a n cap,x] w (MU (atN l x)):=by
 have e:=af ((a0c w.heap.size w).alloc (a0a _) (.cells #[x] 9));have C:=af (xC a cap l n i w.heap.size x _ (h.later e) j ((aG w #[x] 9).cell 0 _ rfl));clear h i;go_enter func68,ntmps68;go_wp2_with fail;refine C.mono ?_;rintro f x1⟨rfl,c⟩;have b:=af (aj e c);clear c e C;by_cases g:atN l x<0
 .
  have d:=af (Ik g);go_wp2
  go_ret2
  exact⟨by rw[ae d];rfl,b⟩
 .
  have d:=af (Cd g);go_wp2
  go_ret2
  exact⟨by rw[ae d];rfl,b⟩
end Go.Proofs.YtckocaibjciplaaGreatDoor
set_option maxHeartbeats 6400000
namespace Go.Proofs.YtckocaibjciplaaGreatDoor
open Go.Proofs.Tryz
open Go.RowKit Corb
variable {b c g k n:Nat}
def pw(l:List En)(k:Nat):l.flatMap bY=(l.take k).flatMap bY++(l.drop k).flatMap bY:=by rw[←a1H,a1P]
def take_len{l:List En}(b:l.length=n)(a:k<=n):((l.take k).flatMap bY).length=k*8:=by rw[jV ib,a0v];omega
def nd{l:List En}(a:l.length=n):((l.drop k).flatMap bY).length=(n-k)*8:=by rw[jV ib,a04,a]
def Oo{W:World}{l:List En}(d:l.length=n)(h:dF W b (.slice g n c) l)(k:Nat):∀j u,((l.take k).flatMap bY)[j]?=some u->W.cell? ((⟨g,0,none⟩:Addr).add j)=some u:=fun j u a=>by
 refine a1B (bU.own d h) rfl j u ?_;rw[pw l k,List.getElem?_append_left (List.getElem?_eq_some_iff.1 a).1];exact a
def Oi{W:World}{l:List En}(a:l.length=n)(h:dF W b (.slice g n c) l)(k:Nat)(d:k<=n):∀j u,((l.drop k).flatMap bY)[j]?=some u->W.cell? ((⟨g,k*8,none⟩:Addr).add j)=some u:=fun j u e=>by
 have:=a1B (bU.own a h) rfl (k*8+j) u (by
  rw[pw l k,List.getElem?_append_right (by rw[take_len a d];omega),take_len a d,a1q];exact e)
 rw[Addr.add_lit]at this ⊢;rw[a0H]at this;exact this
def D7{l:List En}(d:l.length=n)(m:n<=c)(k:Nat)(f:k<n):∃A:Addr,(if c=k+1 then some (⟨g,0,none⟩:Addr)else some ⟨g,(k+1)*8,none⟩)=some A/\Hid (∀W,dF W b (.slice g n c) l->∀j u,((l.drop (k+1)).flatMap bY)[j]?=some u->W.cell? (A.add j)=some u):=by
 by_cases h:c=k+1
 . refine⟨⟨g,0,none⟩,a0d h,fun W _ j u i=>?_⟩;have a:=(List.getElem?_eq_some_iff.1 i).1;rw[nd d]at a;omega
 . exact⟨⟨g,(k+1)*8,none⟩,a0e h,fun W e=>Oi d e (k+1) f⟩
def rN{l:List En}(b:l.length=n)(a:k<n):(l.eraseIdx k).length=k+(n-(k+1)):=by rw[a3R,a0d (by omega)];omega
def xG(g c n k:Nat)(l:List En)(ob:Nat)(w:World)(o:l.length=n)(h:dF w ob (.slice g n c) l)(V:n<=6)(G:k<n) :
  Calls prog 37 #[.slice g n c,k] w fun f w'=>(∃v,f = .returned v/\dF w' w.heap.size v (l.eraseIdx k))/\Below w.heap.size w w':=by
 have L:=cE
 obtain⟨i0,K,q,r,s⟩:=a0s Tryz.infoEnt;obtain⟨_,_,e,O,_⟩:=h.formN o;cases e
 obtain⟨A,X,B⟩:=D7 (b:=ob) (g:=g) o O k G;have z:=af (fun W N=>Oo (W:=W) (b:=ob) (g:=g) (c:=c) o N k);have u:=af (take_len o (a0r G));have y:=af (nd (k:=k+1) o);have i:Hid (∀x,x<=40->x<=maxLen/\x*80<=140737488355328):=fun x Y=>by unfold maxLen;omega
 have J:=af (fun W (hb:Below w.heap.size w W)=>h.later hb (a0a _));have M:Hid (l.eraseIdx k=l.take k++l.drop (k+1)):=List.eraseIdx_eq_take_drop_succ _ _;have t:=af (rN o G);have S:(k:Int)<(n:Int):=by omega
 have T:(k:Int)<=(c:Int):=by omega
 have Q:0<=(k:Int)+1:=by omega
 have R:(k:Int)+1<=(n:Int):=by omega
 have U:(n:Int)<=6:=by omega
 have P:(n:Int)<=(c:Int):=by omega
 have Z:IntKind.i64.wrap ((k:Int)+1)=(k:Int)+1:=by simp only[IntKind.wrap,IntKind.bits,IntKind.signed];simp;omega
 have d:Hid (Below w.heap.size w (w.drew.alloc (.cells #[] 34))):=(a0c _ _).drew.alloc (a0a _) _;clear h o;go_enter func37,ntmps37;go_wp2_with fail
 go_region_law (first
  | (refine aL rfl (.tmp 5) (.tmp 8) 27 rfl w.heap.size 34 i0 (.agg ()) 8 80 a1m K q r s rfl (by decide) (.slice w.heap.size 0 0) 0 [] (by simp[Act.eval]) (a0S w.drew #[] 0 (a0a _) (by unfold maxLen;omega) rfl) ⟨g,0,none⟩ k c ((l.take k).flatMap bY) (by simp[Act.eval]) u (z _ (ae J _ (ae d))) (jT _) (i _ (by omega)).1 (i _ (by omega)).2 d.size ?_;intro v1 x1 a D H;clear H;have m:=d.grown D d.size (fun j F=>by cases F;exact a0a _))
  | (refine aL rfl (.tmp 9) (.tmp 13) 27 rfl w.heap.size 34 i0 (.agg ()) 8 80 a1m K q r s rfl (by decide) v1 (0+k) ([]++(l.take k).flatMap bY) (by simp[Act.eval]) a A (n-(k+1)) (c-(k+1)) ((l.drop (k+1)).flatMap bY) (by simp[Act.eval]) y (B _ (ae J _ m)) (jT _) (i _ (by omega)).1 (i _ (by omega)).2 m.size ?_;intro v2 x2 p E I;clear I;have C:=m.grown E m.size (fun j F=>(a0z a j F).1)))
 go_wp2;go_ret;refine⟨⟨v2,rfl,?_⟩,C⟩;show World.ownsRow _ _ _ _ _ _ _;rw[ae t,ae M,a1H];simpa using p
def pE(w:World)(g:Nat)(vs:List Value)(o:Nat):setMany w g o vs=w.setCells g o vs:=by
 induction vs generalizing w o with
 | nil=>rfl
 | cons v vs ih=>exact ih _ _
def Jj{P:Program}(w:World)(t e ty:TypeId)(z:Value)(l:P.underlying t=some (.slice e))(m:∀w,(zeroValue e).run P w = .ok z w)(f:∀u∈z.cells.toList,u.oneCell'=true)(b o n c:Nat)(k:n=1)
  (g:∀j,j<z.cells.size->(w.cell? ⟨b,o+j,none⟩).isSome=true) (h:∀j,j<z.cells.size->w.frozen? ⟨b,o+j,none⟩=false) :
  (Builtin.clear_ #[t] ty #[.slice (some ⟨b,o,none⟩) n c]).run P w = .ok (.tuple #[]) (w.setCells b o z.cells.toList):=by
 subst k;have d:(Builtin.zeroCells z.cells 1).toList=z.cells.toList:=by
  apply a2i
  . simp[Builtin.zeroCells]
  .
   intro i a1 a2;have:i<z.cells.size:=by simpa using a2
   simp[Builtin.zeroCells,a1e this];rw[getElem!_pos z.cells i this]
 have a:=run_storeCells_cells (P:=P) b o z.cells.toList 0 w (by simpa using g) (by simpa using h) f;simp only[a1b]at a;simp[Builtin.clear_,a1R l,m,d,a]
def Om{w:World}{l:List En}{e:En}{m:Nat}(o:l.length=m)(p:m+1=n)(h:dF w b (.slice g n c) (l++[e])):dF w b (.slice g m c) l:=by
 subst o p;rcases h.2 with⟨e0,_⟩|⟨g',cap,a,e0,i,h2,d,j,k,f⟩
 . cases e0
 .
  simp only[a0L,a0k,a0A,a0Q]at e0;obtain⟨rfl,_,rfl⟩:=e0;rw[a0j]at d f;refine⟨jV ib l,.inr ⟨g,c,a,rfl,i,h2,by simp at d;omega,j,k,?_⟩⟩;have e1:(l.flatMap bY).length=l.length*8:=jV ib l;have e2:(l.flatMap bY).take (l.length*8)=l.flatMap bY:=a0u (by rw[e1];exact a0a _);have:=congrArg (List.take (l.length*8)) f;rw[a2T,a1H,a1r (by rw[e1];exact a0a _),e2]at this;rw[←this]
  congr 1
  simp<;>omega
def MB(l:List En)(k n:Nat)(a:l.length=n)(e:k<n)(z:En):Eh (Eh (l.flatMap bY) (k*8) ((l.drop (k+1)).flatMap bY)) ((k+(n-(k+1)))*8) (bY z)=(l.eraseIdx k++[z]).flatMap bY:=by
 have hd:=nd (k:=k+1) a;have b:(l.flatMap bY).length=n*8:=by rw[jV ib,a]
 have d:(l.flatMap bY).take (k*8)=(l.take k).flatMap bY:=by
  rw[pw l k,a1r (by rw[take_len a (by omega)];exact a0a _),a0u (by rw[take_len a (by omega)];exact a0a _)]
 have c:=take_len (l:=l) (k:=k) a (by omega);have e1:((l.take k).flatMap bY++(l.drop (k+1)).flatMap bY).length=(k+(n-(k+1)))*8:=by rw[a0j,c,hd];omega
 have e2:((l.take k).flatMap bY++(l.drop (k+1)).flatMap bY++(l.flatMap bY).drop (k*8+(n-(k+1))*8)).take ((k+(n-(k+1)))*8)=(l.take k).flatMap bY++(l.drop (k+1)).flatMap bY:=by
  rw[a1r (by rw[e1];exact a0a _)];exact a0u (by rw[e1];exact a0a _)
 have e4:((l.take k).flatMap bY++(l.drop (k+1)).flatMap bY++(l.flatMap bY).drop (k*8+(n-(k+1))*8)).length=n*8:=by rw[a0j,e1,a04,b];omega
 have e3:((l.take k).flatMap bY++(l.drop (k+1)).flatMap bY++(l.flatMap bY).drop (k*8+(n-(k+1))*8)).drop ((k+(n-(k+1)))*8+8)=[]:=a3f (by rw[e4];omega);rw[IL _ _ (k*8) (by rw[hd,b];omega),d,hd,IL _ _ _ (by rw[e4,ib];omega),ib,e2,e3];rw[a03,List.eraseIdx_eq_take_drop_succ,a1H,a1H];simp
def FG(g c n k:Nat)(l:List En)(b:Nat)(w:World)(a:l.length=n)(h:dF w b (.slice g n c) l)(P:n<=6)(p:k<n) :
  Calls prog 69 #[.slice g n c,k,.int .i64 ((k:Int)+1)] w fun f w'=>f = .returned (.slice g (k+(n-(k+1))) c)/\dF w' b (.slice g (k+(n-(k+1))) c) (l.eraseIdx k)/\Below b w w':=by
 have v:=cE
 obtain⟨i0,F,N,u,O⟩:=a0s Tryz.infoEnt;obtain⟨_,_,e,B,t⟩:=h.formN a;cases e
 unfold maxLen at t;obtain⟨A,Q,s⟩:=D7 (b:=b) (g:=g) a B k p;have q:=af (nd (k:=k+1) a);have hd:dF w.drew b (.slice g n c) l:=h;have r:Hid (∀j,j<((l.drop (k+1)).flatMap bY).length->(w.drew.cell? ⟨g,0+k*8+j,none⟩).isSome=true/\w.drew.frozen? ⟨g,0+k*8+j,none⟩=false):=fun j o=>by
  rw[nd a]at o;have d:=bU.own a hd;refine⟨?_,a2O d _⟩;rw[a1d d _ (by omega),List.getElem?_eq_getElem (by rw[jV ib,a];omega)];rfl
 obtain⟨W1,hW1⟩:∃W,W=w.drew.setCells g (0+k*8) ((l.drop (k+1)).flatMap bY):=⟨_,rfl⟩;have m:Below b w W1:=by rw[hW1,←pE];exact uN (a0c _ _).drew h.below.1 _ _
 have d:W1.ownsRow b 34 8 (.slice g n c) n (Eh (l.flatMap bY) (k*8) ((l.drop (k+1)).flatMap bY)):=by
  rw[hW1,←pE,a0H];exact tF _ _ (bU.own a hd)
 have E:∀ty,(Builtin.clear_ #[27] ty #[.slice (some ⟨g,(k+(n-(k+1)))*8,none⟩) (n-(k+(n-(k+1)))) (c-(k+(n-(k+1))))]).run prog W1 = .ok (.tuple #[]) (W1.setCells g ((k+(n-(k+1)))*8) (Value.cells (.agg ())).toList):=fun ty=>by
  refine Jj W1 _ _ ty (.agg ()) a1m (fun w=>by kernel_rfl) (ie default) g _ _ _ (by omega) (fun j o=>?_) (fun j o=>a2O d _);have G:j<8:=o;rw[a1d d _ (by omega),List.getElem?_eq_getElem (by rw[d.1];omega)];rfl
 have i:Hid (dF (W1.setCells g ((k+(n-(k+1)))*8) (Value.cells (.agg ())).toList) b (.slice g (k+(n-(k+1))) c) (l.eraseIdx k)/\Below b w (W1.setCells g ((k+(n-(k+1)))*8) (Value.cells (.agg ())).toList)):=by
  rw[←pE];refine⟨Om (e:=default) (rN a p) (n:=n) (by omega) ?_,uN m h.below.1 _ _⟩;have h2:=tF (bY default) ((k+(n-(k+1)))*8) d;rw[MB l k n a p default]at h2;show World.ownsRow _ _ _ _ _ _ _;rw[a0j,rN a p,show k+(n-(k+1))+[(default:En)].length=n by simp;omega];exact h2
 have y:=af hW1;have x:=af hd;have J:(k:Int)<(n:Int):=by omega
 have K:(k:Int)<=(c:Int):=by omega
 have H:0<=(k:Int)+1:=by omega
 have I:(k:Int)+1<=(n:Int):=by omega
 have L:(n:Int)<=6:=by omega
 have C:(n:Int)<=(c:Int):=by omega
 have D:(c:Int)<=9223372036854775807:=by omega
 have M:¬ c=k+(n-(k+1)):=by omega
 have z:¬ (k:Int)=(k:Int)+1:=by omega
 clear h a hW1 d m hd;go_enter func69,ntmps69;go_wp2_with fail
 go_region_law (refine step_append_room rfl (.tmp 22) (.tmp 25) 27 rfl 34 i0 8 a1m F u g 0 k c (by simp[Act.eval,Act.put]) A (n-(k+1)) (c-(k+1)) ((l.drop (k+1)).flatMap bY) (by simp[Act.eval,Act.put]) q (s _ (ae x)) (jT _) (by omega) r ?_;rw[←ae y])
 go_wp2;go_ret;exact⟨rfl,i⟩
def zM{x:ByteArray}{l:List En}(h:atN l x=(k:Int)):jd x l=(0,l.eraseIdx k):=by unfold jd;rw[a0e (by omega),h,a0o]
def qp{x:ByteArray}{l:List En}(h:atN l x = -1):jd x l=(2,[]):=by unfold jd;rw[a0d (by omega)]
def zK(x:ByteArray)(v:Value)(l:List En)(bx b:Nat)(w:World)(h:dF w b v l)(E:bF l=true)(hb:b<=w.heap.size)(D:w.cell? ⟨bx,0,none⟩=some (.string x)) :
  Calls prog 67 #[v,.pointer bx] w (Bc b w (jd x l)):=by
 obtain⟨n,hn⟩:∃n,l.length=n:=⟨_,rfl⟩;obtain⟨a,c,rfl,F,_⟩:=h.formN hn;have C:(n:Int)<=6:=by have:=(dS E).2;omega
 have s:=af (zP a c l n hn x w (eO hn h) (by omega));have t:=af h;have u:=af hn;have z:=af hb;clear h hn hb;go_enter func67,ntmps67;go_wp2_with fail;refine s.mono ?_;rintro f x2⟨rfl,d⟩;have i:=af (d.mono z);have j:=af (t.later d (a0a _));clear s d t D;rcases Fi l x with e|⟨k,A,e⟩
 .
  have o:Hid ((jd x l).1=2):=by show _=_;rw[qp e]
  rw[Ik (by omega)];clear e;go_wp2
  go_ret2
  exact Ih o (by decide) i
 .
  have o:=af (zM e);rw[Cd (by omega),e];have r:k<n:=by have:=ae u;omega
  have B:(k:Int)<(n:Int):=by omega
  obtain⟨g,rfl⟩:=j.somes (by omega);have CD:=af (FG g c n k l b x2 u j (by omega) r);clear e A;go_wp2_with fail;refine CD.mono ?_;rintro f x3⟨rfl,y,m⟩;have q:=af y;have p:=af (i.trans m);clear y m CD;go_wp2
  go_ret2
  refine⟨⟨.slice g (k+(n-(k+1))) c,?_,⟨_,_,_,rfl⟩,fun _=>?_⟩,p⟩
  . rw[ae o];rfl
  . rw[ae o];exact q
def zL(s:ByteArray)(d:List En->Int×List En)(bx:Nat)(m:Int)(w:World)(R:s.size<=1048576)(I:w.cell? ⟨2,0,none⟩=some (.int .i64 m))(M:mO w)(L:dG w)
  (hd:∀l,bF l=true->(d l).1=0->bF (d l).2=true)
  (X:∀W v l,dr s=some l->Below w.heap.size w W->dF W w.heap.size v l->Calls prog 67 #[v,.pointer bx] W (Bc w.heap.size W (d l))) :
  Calls prog 23 #[s,.func (.func 67) #[] #[.pointer bx]] w fun f w'=>f = .returned (edR s d)/\Below w.heap.size w w':=by
 have C:=af (fs s m w R I M L);have Z:=af I;have P:=af (World.block_lt_of_cell? _ _ I);have Y:=af (fun W (hb:Below w.heap.size w W)=>(hb.cell (p:=⟨2,0,none⟩) P).trans Z);have V:=af (fun W (hb:Below w.heap.size w W)=>M.later hb);have J:=af (fun W (hb:Below w.heap.size w W)=>L.later hb);have U:=af X;have Hd:=af hd;have HS:=af R;clear R I M L hd X;go_enter func23,ntmps23;go_wp2_with fail;refine C.mono ?_;rintro f x1⟨⟨v,rfl,b⟩,h⟩;have B:=af h;clear C;rcases z:dr s with _|l
 .
  have D:=af (oo z d);clear z b h;go_wp2
  go_ret2
  exact⟨by rw[ae D];rfl,B⟩
 .
  rw[z]at b;have CD:=af (ae U x1 v l z h b);have K:=af z;clear z b h U;go_wp2_with fail;refine CD.mono ?_;rintro f x2⟨⟨v2,rfl,⟨a,n,c,rfl⟩,G⟩,E⟩;have o:=af (B.trans E);have A:=af (kT (d l).1 x2 (V _ (ae o)));have H:=af G;clear E G CD;obtain⟨q,hq⟩:∃q,d l=q:=⟨_,rfl⟩;have Hq:=af hq;rw[hq]at A H;rw[hq];clear hq;obtain⟨k,r⟩:=q;simp only at A H;simp only;obtain⟨FV,hFV⟩:∃x,dJ k=x:=⟨_,rfl⟩;rw[hFV]at A;rw[hFV];clear hFV;go_wp2_with fail;refine A.mono ?_;rintro f x3⟨rfl,u⟩;have e:=af (aj o u);have j:=af u;clear u A;by_cases O:k=0
  .
   subst O;have y:bF r=true:=by have:=ae Hd l (jR K) (by rw[ae Hq]);rw[ae Hq]at this;exact this
   have Q:dF x2 w.heap.size (.slice a n c) r:=ae H rfl;obtain⟨N,hN⟩:∃n,r.length=n:=⟨_,rfl⟩;obtain⟨a',c',e',aa,_⟩:=Q.formN hN;cases e'
   have F:=Q.later j (a0a _);have h6:=(dS y).2;have T:=af (nu a c r n hN m x3 (eO hN F) (by omega) (by omega) (fun i hi=>oM y i (by omega)) (Y _ (ae e)) (V _ (ae e)) (J _ (ae e)));have D:=af (lY K Hq);clear y Q F h6 H j o;go_wp2_with fail;refine T.mono ?_;rintro f x4⟨rfl,g⟩;have t:=af (aj e g);clear g T;go_wp2
   go_ret2
   exact⟨by rw[ae D];rfl,t⟩
  .
   have D:=af (nf K Hq O);have S:=af (fun W=>mw s W (by have:=ae HS;omega));have hd:decide (k=0)=false:=a0m O;go_wp2_with fail;refine(S _).mono ?_;rintro f x4⟨rfl,g⟩;have t:=af (aj e g);clear g S;go_wp2
   go_ret2
   exact⟨by rw[ae D];rfl,t⟩
def zO(x:ByteArray)(w:World) :
  Calls prog 35 #[x] w fun f w'=>f = .returned (.func (.func 67) #[] #[.pointer w.heap.size])/\w'=w.alloc (.cells #[x] 9):=by
 go_enter func35,ntmps35;go_wp2;go_ret;exact⟨rfl,rfl⟩
def mJ(s x:ByteArray)(m:Int)(w:World)(o:s.size<=1048576)(e:w.cell? ⟨2,0,none⟩=some (.int .i64 m))(n:mO w)(j:dG w) :
  Calls prog 15 #[s,x] w fun f w'=>f = .returned (edR s (jd x))/\Below w.heap.size w w':=by
 have b:=af ((a0c w.heap.size w).alloc (a0a _) (.cells #[x] 9));have g:=(aG w #[x] 9).cell 0 _ rfl;have CD:=af (zL s (jd x) w.heap.size m _ o ((b.cell (p:=⟨2,0,none⟩) (World.block_lt_of_cell? _ _ e)).trans e) (n.later b) (j.later b) (fun _ h r=>Qj h r)
   (fun _ v l y a u=>zK x v l w.heap.size _ _ u (jR y) a.size ((a.cell (p:=⟨w.heap.size,0,none⟩) (World.block_lt_of_cell? _ _ g)).trans g)))
 clear o e n j g;go_enter func15,ntmps15;go_wp2_with fail;refine(zO x _).mono ?_;rintro f x1⟨rfl,i⟩;subst i;go_wp2_with fail;refine CD.mono ?_;rintro f x2⟨rfl,a⟩;have c:=af (aj b a);clear a CD b;obtain⟨t,k,d⟩:=Ii s (jd x);have q:=af d;rw[d];clear d;go_wp2
 go_ret2
 exact⟨by rw[ae q];rfl,c⟩
def un(s x:ByteArray)(w:World)(K:s.size<=1048576) :
  Calls prog 16 #[s,x] w fun f w'=>f = .returned (edR s (jd x))/\Below w.heap.size w w':=by
 have C:=af (nS s w K);have M:=E6 (s:=s);clear K;go_enter func16,ntmps16;go_wp2_with fail;refine C.mono ?_;rintro f x1⟨⟨v,rfl,b⟩,m⟩;have d:=af m;obtain⟨L,hL⟩:∃l,(dr s).getD []=l:=⟨_,rfl⟩;rw[hL]at b M;obtain⟨n,hn⟩:∃n,L.length=n:=⟨_,rfl⟩;obtain⟨a,c,rfl,N,_⟩:=b.formN hn;have Q:(n:Int)<=6:=by omega
 have E:=af (Di a c L n hn x x1 (eO hn b) (by omega));have H:=af hL;have I:=af b;have J:=af hn;clear m C b hL N M;go_wp2_with fail;refine E.mono ?_;rintro f x2⟨rfl,D⟩;subst D;clear E;rcases q:dr s with _|l
 .
  have j:=af (oo q (jd x));clear q;go_wp2
  go_ret2
  exact⟨by rw[ae j];rfl,d⟩
 .
  obtain rfl:l=L:=by have:=ae H;rw[q]at this;exact this
  have y:=af q;clear q H;rcases Fi l x with h|⟨k,O,h⟩
  .
   have j:=af (nf y (qp h) (by decide));rw[h];clear h;go_wp2
   go_ret2
   exact⟨by rw[ae j];rfl,d⟩
  .
   have hd:=zM h;have j:=af (lY y hd);have r:bF (l.eraseIdx k)=true:=sW (jR y) k;rw[h];have B:k<n:=by have:=ae J;omega
   have P:(k:Int)<(n:Int):=(by omega);obtain⟨g,rfl⟩:=I.somes (by omega);have G:=af (xG g c n k l _ _ J I (by omega) B);have z:=af r;clear h O hd r;go_wp2_with fail;refine G.mono ?_;rintro f x3⟨⟨v3,rfl,e⟩,o⟩;have t:=af (aj d o);obtain⟨n3,hn3⟩:∃n,(l.eraseIdx k).length=n:=⟨_,rfl⟩;obtain⟨a3,c3,rfl,_,_⟩:=e.formN hn3;have F:=af (su a3 c3 n3 (l.eraseIdx k) x3 hn3 (eO hn3 e) (by have:=(dS z).2;omega) (fun i R=>zQ z (by omega)));have A:=af (Ba z hn3);clear o G e hn3;go_wp2_with fail;refine F.mono ?_;rintro f x4⟨rfl,p⟩;have u:=af (aj t p);rw[←ae A];clear p F;go_wp2
   go_ret2
   exact⟨by rw[ae j];rfl,u⟩
end Go.Proofs.YtckocaibjciplaaGreatDoor
set_option maxHeartbeats 3200000
namespace Go.Proofs.YtckocaibjciplaaGreatDoor
open Go.Proofs.Tryz
open Go.RowKit Corb
variable {b:Nat}{w w':World}
def ub(a:Option Addr)(len cap:Nat)(z:Nat->Int)(w:World)(h:Src w a len z)(y:len<=cap)(A:len<=maxLen) :
  Calls prog 34 #[.slice a len cap] w fun e w'=>(∃s x:ByteArray,e = .returned (.tuple #[s,x])/\s.size<=9100/\x∈eG)/\Below w.heap.size w w':=by
 go_enter func34,ntmps34;go_wp2_with fail;refine(vH a len cap z _ h y A).mono ?_;rintro e w1⟨rfl,p,f,B⟩;go_wp2_with fail;refine(vG _ _ 0 _ p (by omega)).mono ?_;rintro e w2⟨⟨l,q,rfl⟩,i,c⟩;have v:=fG l;have m:=af (f.trans c.1);have E:=af q;obtain⟨S,hSe⟩:∃x,dD l=x:=⟨_,rfl⟩;have u:=af hSe;rw[hSe]at v;rw[hSe];clear c q hSe;go_wp2_with fail;refine(qD _ _ _ S _ i (by omega) (by omega)).mono ?_;rintro e w3⟨⟨t,rfl,C,g⟩,j,b⟩;have r:=af g;clear g;have n:=af (m.trans b);clear b;go_wp2_with fail;refine(nz _ _ _ _ j (by omega)).mono ?_;rintro e w4⟨x,D,rfl,k,d⟩;have o:=af (n.trans d.1);clear d k;go_wp2
 go_ret2
 exact⟨⟨t,x,rfl,C,D⟩,o⟩
def ua(a:Option Addr)(len cap:Nat)(z:Nat->Int)(w:World)(h:Src w a len z)(c:len<=cap)(d:len<=maxLen) :
  Calls prog 14 #[.slice a len cap] w fun e w'=>(∃s x:ByteArray,e = .returned (.tuple #[s,x])/\s.size<=9100/\x∈eG)/\Below w.heap.size w w':=by
 have C:=af (ub a len cap z w h c d);clear h c d;go_enter func14,ntmps14;go_wp2_with fail;refine C.mono ?_;rintro e w1⟨⟨s,x,rfl,f⟩,hb⟩;have b:=af (a0b f hb);clear f hb C;go_wp2
 go_ret2
 exact⟨⟨s,x,rfl,b.1⟩,b.2⟩
end Go.Proofs.YtckocaibjciplaaGreatDoor
set_option maxHeartbeats 6400000
namespace Go.Proofs.YtckocaibjciplaaGreatDoor
open Corb
variable {k:Nat}{x:ByteArray}
def at_eq{l:List En}(h:atN l x=(k:Int)):(l.getD k default).n=x:=ck (Bj h).2
def LY{l:List En}(h:bF l=true){j:Nat}(a:atN l x=(k:Int))(b:j<l.length):(l.getD j default).n=x<->j=k:=by
 constructor
 . intro e;have:=L2 h b;rw[e,a]at this;omega
 . intro e;subst e;exact at_eq a
def BX{l:List En}{j:Nat} : (l.eraseIdx k).getD j default=if j<k then l.getD j default else l.getD (j+1) default:=by
 simp only[List.getD,List.getElem?_eraseIdx]
 split<;>rfl
def yd{l:List En}(h:bF l=true)(a:atN l x=(k:Int)):atN (l.eraseIdx k) x = -1:=by
 obtain⟨c,_⟩:=Bj a;refine qe fun j b e=>?_;have e2:((l.eraseIdx k).getD j default).n=x:=ck (dw.1 e);rw[a3R,a0d c]at b;rw[BX]at e2
 split at e2
 . rename_i hjk;have:=(LY h a (by omega)).1 e2;omega
 . rename_i hjk;have:=(LY h a (by omega)).1 e2;omega
def Jr{l:List En}(h:bF l=true)(a:atN l x=(k:Int)):bF (l.eraseIdx k)=true/\zV (l.eraseIdx k) x = .tuple #[.string ⟨#[]⟩,.bool false]/\edR (dD (l.eraseIdx k)) (jd x) = .tuple #[.string (dD (l.eraseIdx k)),.int .i64 2]:=by
 have b:=sW h k;exact⟨b,M4 (yd h a),nf (r:=[]) (lR b) (qp (yd h a)) (by decide)⟩
open Go.RowKit
def M0(a:Option Addr)(len cap:Nat)(zs:List Int)(m:Int)(w:World)(w0:xR .u8 w a len cap zs)(hm:w.cell? ⟨2,0,none⟩=some (.int .i64 m))(hg:mO w)(hO:dG w) :
  Ds 5 #[.slice a len cap] w (.bool true):=by
 obtain⟨⟨z,K⟩,hc,v⟩:=GM w0;have ao:=af (ua a len cap z w K hc v);have o:=af (fun W (hb:Below w.heap.size w W)=>a0b ((hb.cell (p:=⟨2,0,none⟩) (World.block_lt_of_cell? _ _ hm)).trans hm) (a0b (hg.later hb) (hO.later hb)));unfold maxLen at v;clear w0 K hm hg hO;by_cases hl:(len:Int)<=1048576
 .
  go_enter Tryz.func5,Tryz.ntmps5;go_wp2_with fail;refine ao.mono ?_;rintro e w1⟨⟨S,x,rfl,bd,hx⟩,a4⟩;have b:=af a4;clear a4 ao v hc;have V:=af bd;have b0:=Ay (a02.2 (.inr hx));have b1:=af (show x.size<=1048576 by omega);have O:=af (fun W (d:Below w.heap.size w W)=>mJ S x m W (by have:=ae V;omega) (o W d).1 (o W d).2.1 (o W d).2.2);have P:=af (fun W=>un S x W (by have:=ae V;omega));clear bd hx b0;rcases L:dr S with _|l
  .
   have F:=af (oo L (jd x));clear L;rw[ae F]at O P;clear F;go_wp2_with fail;refine(O _ (ae b)).mono ?_;rintro e w3⟨rfl,g⟩;have f:=af (aj b g);clear g b;go_wp2_with fail;refine(P _).mono ?_;rintro e w4⟨rfl,h⟩;have q:=af (aj f h);clear h f;go_wp2;all_goals
    go_ret;exact⟨rfl,q⟩
  .
   rcases Fi l x with Y|⟨k,I,Y⟩
   .
    have F:=af (nf (r:=[]) L (qp Y) (by decide));clear L Y;rw[ae F]at O P;clear F;go_wp2_with fail;refine(O _ (ae b)).mono ?_;rintro e w3⟨rfl,g⟩;have f:=af (aj b g);clear g b;go_wp2_with fail;refine(P _).mono ?_;rintro e w4⟨rfl,h⟩;have q:=af (aj f h);clear h f;go_wp2;all_goals
     go_ret;exact⟨rfl,q⟩
   .
    have J:=jR L;obtain⟨ad,ac,Z⟩:=Jr J Y;have F:Hid (edR S (jd x) = .tuple #[.string (dD (l.eraseIdx k)),.int .i64 0]):=lY L (zM Y);have HA:=af (fun j (hj:j<l.length)=>LY J Y hj);obtain⟨n,hn⟩:∃n,l.length=n:=⟨_,rfl⟩;obtain⟨r,hr⟩:∃r,l.eraseIdx k=r:=⟨_,rfl⟩;have HR:Hid (∀j,r.getD j default=if j<k then l.getD j default else l.getD (j+1) default):=fun j=>by rw[←hr];exact BX
    rw[hr]at ad ac Z F;obtain⟨N,hN⟩:∃N,r.length=N:=⟨_,rfl⟩;have a3:N+1=n:=by rw[←hN,←hn,←hr,a3R,a0d I];omega
    rw[hn]at I HA;have HN:=af hn;have T:=af hN;have U:=af a3;have HK:=af I;have a0:Hid (n<=6):=by show _<=_;have:=(dS J).2;omega
    have bs:=fG r;have al:=af (fun W (d:Below w.heap.size w W)=>fs S m W (by have:=ae V;omega) (o W d).1 (o W d).2.1 (o W d).2.2);have M:=af (fun W (d:Below w.heap.size w W)=>fs (dD r) m W (by omega) (o W d).1 (o W d).2.1 (o W d).2.2);have CF:=af (fun W (d:Below w.heap.size w W)=>jt (dD r) x m W (by omega) (o W d).1 (o W d).2.1 (o W d).2.2);have CD:=af (fun W (d:Below w.heap.size w W)=>mJ (dD r) x m W (by omega) (o W d).1 (o W d).2.1 (o W d).2.2);rw[L]at al;rw[lR ad]at M CF;rw[show(some r).getD []=r from rfl,ac]at CF;rw[Z]at CD;obtain⟨X,hX⟩:∃x,dD r=x:=⟨_,rfl⟩;rw[ae F]at O P;rw[hX]at O P M CF CD;clear L J ad ac Z hn hN a3 bs hX F hr Y I;go_wp2_with fail;refine(O _ (ae b)).mono ?_;rintro e w3⟨rfl,g⟩;have f:=af (aj b g);clear g b;go_wp2_with fail;refine(P _).mono ?_;rintro e w4⟨rfl,h⟩;have q:=af (aj f h);clear h f;go_wp2_with fail;refine(al _ (ae q)).mono ?_;rintro e w5⟨⟨v5,rfl,B⟩,a7⟩;have Q:=af (aj q a7);have B:dF w5 w4.heap.size v5 l:=B;obtain⟨a5,c5,rfl,_,_⟩:=B.formN HN;have O5:=af B;clear B a7 q;go_wp2_with fail;refine(M _ (ae Q)).mono ?_;rintro e w6⟨⟨v6,rfl,D⟩,aa⟩;have be:=af (aj Q aa);have O6:=af (O5.later aa (a0a _));have D:dF w6 w5.heap.size v6 r:=D;obtain⟨a6,c6,rfl,_,_⟩:=D.formN T;have Q6:=af D;clear D aa Q  O5;obtain⟨g5,rfl⟩:=bU.somes O6 (by rw[ae HN];have:=ae HK;omega);have b5:(n:Int)<=6:=by have:=ae a0;omega
    go_wp2_with fail
    go_loopw [13,14] (fun c i wr=>∃j:Nat,j<=n/\i = .int .i64 j/\c = .int .i64 ((if j<=k then j else j-1:Nat):Int)/\Below w6.heap.size w6 wr) (fun _ i _=>n-(intOf i).toNat)
    case atStart=>exact⟨0,a0g _,rfl,by rw[a0d (a0g _)];rfl,a0c _ _⟩
    case round=>
     obtain⟨j,hj,rfl,rfl,ab⟩:=hrel;have t:=af ab;have E:=af (aj be ab);clear ab;by_cases s:j<n
     .
      have bc:(j:Int)<(n:Int):=(by omega);have HJ:=af s;obtain⟨c0,c1,c2,c3,c4,a1,a2,c7⟩:=zR HN (O6.later t (a0a _)) j s;by_cases H:j=k
      .
       have A:(l.getD j default).n=x:=(HA j s).2 H;rw[A]at c0;have G:Hid ((if j+1<=k then j+1 else j+1-1:Nat)=(if j<=k then j else j-1:Nat)):=by show _=_;rw[a0e (by omega),a0d (by omega)];omega
       clear A c1 c2 c3 c4 a1 a2 c7 s hj H;obtain⟨C,hC⟩:∃y,(if j<=k then j else j-1:Nat)=y:=⟨_,rfl⟩;rw[hC]at G;rw[hC];go_wp2_with fail;go_roundw
       case rel=>exact⟨j+1,by have:=ae HJ;omega,by go_num,by rw[ae G],t⟩
       case measure=>have:=ae HJ;simp[intOf];omega
      .
       have A:¬ (l.getD j default).n=x:=fun e=>H ((HA j s).1 e);have u:(if j<=k then j else j-1:Nat)<N/\r.getD (if j<=k then j else j-1:Nat) default=l.getD j default/\(if j+1<=k then j+1 else j+1-1:Nat)=(if j<=k then j else j-1:Nat)+1:=by
        have h1:=ae U;have h2:=ae HK;by_cases bb:j<=k
        . rw[a0d bb,a0d (by omega),ae HR,a0d (by omega)];exact⟨by omega,rfl,rfl⟩
        . rw[a0e bb,a0e (by omega),ae HR,a0e (by omega)];exact⟨by omega,by rw[show j-1+1=j by omega],by omega⟩
       obtain⟨C,hC⟩:∃y,(if j<=k then j else j-1:Nat)=y:=⟨_,rfl⟩;rw[hC]at u;rw[hC];obtain⟨g6,rfl⟩:=bU.somes Q6 (by rw[ae T];omega);obtain⟨d0,d1,d2,d3,d4,d5,d6,d7⟩:=zR T (Q6.later t (a0a _)) C u.1;rw[u.2.1]at d0 d1 d2 d3 d4 d5 d6 d7;have G:=af u.2.2;have b3:(C:Int)<(N:Int):=(by omega);have b2:(C:Int)<=6:=by have:=ae a0;have:=ae U;omega
       have b4:decide (N<=C)=false:=a0m (by omega);have bl:¬ (l.getD j default).n.toList=x.toList:=fun e=>A (ck (dw.1 e));have b6:((l.getD j default).n.toList == x.toList)=false:=by simp only[a0Z,ne_eq];exact bl
       clear u hC A H hj s;generalize l.getD j default=en at *;go_wp2_with fail
       go_quiet (fail)
       have T9:Hid (Below w6.heap.size w6 (wr.drewN nq)):=below_drewN t nq;generalize wr.drewN nq=x2 at *;clear c0 c1 c2 c3 c4 a1 a2 c7 d0 d1 d2 d3 d4 d5 d6 d7 t E;go_wp2_with fail;go_roundw
       case rel=>exact⟨j+1,by have:=ae HJ;omega,by go_num,by rw[ae G];go_num,T9⟩
       case measure=>have:=ae HJ;simp[intOf];omega
     .
      have bc:¬ (j:Int)<(n:Int):=(by omega);have ba:(if j<=k then j else j-1:Nat)=N:=by
       have h1:=ae U;have h2:=ae HK;rw[a0e (by omega)];omega
      rw[ba];clear ba s hj;go_wp2_with fail;refine(CF _ (ae E)).mono ?_;rintro e w7⟨rfl,a8⟩;have R:=af (aj E a8);clear a8 E;go_wp2_with fail;refine(CD _ (ae R)).mono ?_;rintro e w8⟨rfl,a9⟩;have bk:=af (aj R a9);clear a9 R;go_wp2;go_ret;exact⟨rfl,bk⟩
 . go_enter Tryz.func5,Tryz.ntmps5;go_wp2;go_ret;exact⟨rfl,a0c _ _⟩
end Go.Proofs.YtckocaibjciplaaGreatDoor
