/- Texts. -/
import Derived.Test.YtemopnjckikkaaaGreatDoorM10
set_option linter.all false
set_option maxRecDepth 100000
set_option maxHeartbeats 1600000
namespace Go.Proofs.YtemopnjckikkaaaGreatDoor
open Go.Proofs.Tryz
open Go.RowKit
variable {B n:Nat}{t:TypeId}{v:Value}{w w':World}
structure Grp where
 cnt:Int
 fst:Int
 syms:List Int
 val:Value
def aR:List Grp->List Value
 | []=>[]
 | g :: l=>.int .i64 g.cnt :: .int .i64 g.fst :: g.val :: aR l
def lW(l:List Grp):(aR l).length=l.length*3:=by
 induction l with
 | nil=>rfl
 | cons p l ih=>simp only[aR,a0A,ih];omega
def kP(l m:List Grp):aR (l++m)=aR l++aR m:=by
 induction l with
 | nil=>rfl
 | cons p l ih=>simp[aR,ih]
def Cy(l:List Grp)(k:Nat):aR (l.take k)=(aR l).take (k*3):=by
 induction l generalizing k with
 | nil=>simp[aR]
 | cons p l ih=>
  cases k with
  | zero=>simp[aR]
  | succ k=>rw[show(k+1)*3=k*3+1+1+1 by omega];simp[aR,ih]
def Cx(l:List Grp)(k:Nat):aR (l.drop k)=(aR l).drop (k*3):=by
 induction l generalizing k with
 | nil=>simp[aR]
 | cons p l ih=>
  cases k with
  | zero=>simp
  | succ k=>rw[show(k+1)*3=k*3+1+1+1 by omega];simp[aR,ih]
def g0:Grp:=⟨0,0,[],.slice none 0 0⟩
def Fx(l:List Grp)(i:Nat)(h:i<l.length):(aR l)[i*3]?=some (.int .i64 (l.getD i g0).cnt)/\(aR l)[i*3+1]?=some (.int .i64 (l.getD i g0).fst)/\(aR l)[i*3+2]?=some (l.getD i g0).val:=by
 induction l generalizing i with
 | nil=>simp at h
 | cons p l ih=>
  cases i with
  | zero=>simp[aR]
  | succ i=>
   have:=ih i (by simpa using h);rw[show(i+1)*3=i*3+1+1+1 by omega];simpa[aR]using this
def cU(t:TypeId)(w:World)(base:Nat)(v:Value)(l:List Grp):Prop:=w.ownsRow base t 3 v l.length (aR l)
def dS(w:World)(ob:Nat)(l:List Grp):Prop:=∀g∈l,ap w ob g.val g.syms
def cU.form{base:Nat}{l:List Grp}(h:cU t w base v l):∃a cap,v = .slice a l.length cap:=by
 rcases h.2 with⟨e,b⟩|⟨g,cap,_,e,_⟩
 . exact⟨none,0,by rw[e,b]⟩
 . exact⟨_,cap,e⟩
def cU.formN{base:Nat}{l:List Grp}(b:l.length=n)(h:cU t w base v l):∃a cap,v = .slice a n cap:=by
 subst b;exact h.form
def cU.somes{base cap:Nat}{a:Option Addr}{l:List Grp}(h:cU t w base (.slice a n cap) l)(d:0<l.length):∃g,a=some ⟨g,0,none⟩:=by
 rcases h.2 with⟨_,e⟩|⟨g,b,c,e,_⟩
 . omega
 . simp only[a0J]at e;exact⟨g,e.1⟩
def cU.cap{base cap:Nat}{a:Option Addr}{l:List Grp}(f:l.length=n)(h:cU t w base (.slice a n cap) l):n<=cap/\cap<=maxLen:=by
 rcases h.2 with⟨e,_⟩|⟨g,b,c,e,_,_,d,h2,_⟩
 . simp only[a0J]at e;unfold maxLen;omega
 . simp only[a0J]at e;omega
def cU.at{base g cap:Nat}{l:List Grp}(c:l.length=n)(h:cU t w base (.slice g n cap) l)(j:Nat)(b:j<n) :
  w.cell? ⟨g,j*3,none⟩=some (.int .i64 (l.getD j g0).cnt)/\w.cell? ⟨g,j*3+1,none⟩=some (.int .i64 (l.getD j g0).fst)/\w.cell? ⟨g,j*3+2,none⟩=some (l.getD j g0).val/\base<=g/\g<w.heap.size:=by
 subst c;have a:=Fx l j b;exact⟨(a07 h (j*3) (by omega)).trans a.1,(a07 h (j*3+1) (by omega)).trans a.2.1,(a07 h (j*3+2) (by omega)).trans a.2.2,a0y h g rfl⟩
def wm{base size:Nat}{e:TypeId}{xs:List Value}(h:w.ownsRow base e size v n xs)(hb:Below B w w')(f:w.heap.size<=B):w'.ownsRow base e size v n xs:=by
 refine⟨h.1,?_⟩;rcases h.2 with d|⟨g,cap,b,rfl,c,a,rest⟩
 . exact .inl d
 . refine .inr ⟨g,cap,b,rfl,c,?_,rest⟩;have i:=(Array.getElem?_eq_some_iff.1 a).1;rw[hb.block g (by omega)];exact a
def cU.later{base:Nat}{l:List Grp}(h:cU t w base v l)(hb:Below B w w')(a:w.heap.size<=B):cU t w' base v l:=wm h hb a
def dS.later{ob:Nat}{l:List Grp}(h:dS w ob l)(hb:Below B w w')(a:w.heap.size<=B):dS w' ob l:=fun g b=>(h g b).later hb a
def vL{ob:Nat}{l:List Grp}(h:dS w ob l):∀u∈aR l,u.oneCell'=true:=by
 induction l with
 | nil=>intro u b;simp[aR]at b
 | cons p l ih=>
  intro u b;simp only[aR,a0V]at b;rcases b with rfl|rfl|rfl|b
  . rfl
  . rfl
  . obtain⟨a,c,e⟩:=(h p (by simp)).form;rw[e];rfl
  . exact ih (fun g d=>h g (by simp[d])) u b
def cU.news{base g cap:Nat}{l:List Grp}(f:l.length=n)(h:cU t w base (.slice g n cap) l)(i k o:Nat)(m:o=i*3)(e:i+k<=n) :
  ∀j u,(aR ((l.drop i).take k))[j]?=some u->w.cell? ((⟨g,o,none⟩:Addr).add j)=some u:=by
 intro j u d;subst m f;have b:(⟨g,i*3,none⟩:Addr).add j=⟨g,i*3+j,none⟩:=by unfold Addr.add;split<;>simp_all
 have a:=(List.getElem?_eq_some_iff.1 d).1;rw[lW,a0w,a05]at a;have c:min k (l.length-i)=k:=by omega
 rw[c]at a;rw[b,a07 h (i*3+j) (by omega),←d,Cy,Cx,List.getElem?_take,a0c a,List.getElem?_drop]
end Go.Proofs.YtemopnjckikkaaaGreatDoor
namespace Go.Proofs.YtemopnjckikkaaaGreatDoor.Bkx
open Go.Proofs.Tryz
open Go.Proofs.YtemopnjckikkaaaGreatDoor
open Go.RowKit Corb
def bookPut_any(B:BkI)(A:Bks B)(a ac:Option Addr)(cap n u k:Nat)(vs:Value)(m:Nat->Nat)(C:Array Value)(l c:List Int)(w:World)(s:C=(bp (.slice a n cap) (.slice ac n u) vs m).toArray)(O:l.length=n)(G:c.length=n)(h:br w a l)(i:br w ac c)(M:k<n)(N:n<=300) :
  Calls prog B.p #[.agg C,.int .i64 (k:Int)] w fun e w'=>e = .returned (.agg #[.int .i64 (btI (c.getD k 0) (l.getD k 0)),.int .i64 (l.getD k 0)])/\Below w.heap.size w w':=by
 have e0:C[0]?=some (.slice a n cap):=by subst s;rfl
 have e1:C[1]?=some (.slice ac n u):=by subst s;rfl
 have F:(n:Int)<=300:=by omega
 have E:(k:Int)<(n:Int):=by omega
 clear s;obtain⟨g,o,rfl,L,x⟩:=h (by omega);obtain⟨g',o',rfl,D,f⟩:=i (by omega);have J:=x k (by omega);have K:=f k (by omega);have hb:Below w.heap.size w ((w.alloc (.cells C B.T)).alloc (.cells #[.int .i64 0,.int .i64 0] 137)):=((Below.refl _ _).alloc (Nat.le_refl _) _).alloc (by simp) _;have j:((w.alloc (.cells C B.T)).alloc (.cells #[.int .i64 0,.int .i64 0] 137)).cell? ⟨w.heap.size+1,0,none⟩=some (.int .i64 0):=by
  have:=cell_of_row ((w.alloc (.cells C B.T)).alloc (.cells #[.int .i64 0,.int .i64 0] 137)) (w.heap.size+1) 0 #[.int .i64 0,.int .i64 0] 137 (0,0) (heap_alloc2_new w _ _);rw[this];rfl
 have q:((w.alloc (.cells C B.T)).alloc (.cells #[.int .i64 0,.int .i64 0] 137)).cell? ⟨w.heap.size+1,1,none⟩=some (.int .i64 0):=by
  have:=cell_of_row ((w.alloc (.cells C B.T)).alloc (.cells #[.int .i64 0,.int .i64 0] 137)) (w.heap.size+1) 1 #[.int .i64 0,.int .i64 0] 137 (0,0) (heap_alloc2_new w _ _);rw[this];rfl
 have b:((w.alloc (.cells C B.T)).alloc (.cells #[.int .i64 0,.int .i64 0] 137)).heap.size=w.heap.size+2:=by simp
 have r:=af (And.intro j (And.intro q (And.intro b hb)));clear x f h i j q b hb;generalize l.getD k 0=y at *
 generalize c.getD k 0=z at *
 rcases A with rfl|rfl|rfl;all_goals
  simp only[bkL,bkD,bkN]at r ⊢
  (first|go_enter func138,ntmps138|go_enter func170,ntmps170|go_enter func149,ntmps149)
  go_wp2_with fail;refine(qP _ _ _).mono ?_;rintro e x1⟨rfl,d⟩;obtain⟨j,q,b,hb⟩:=ae r;have H:=(d.cell (p:=⟨w.heap.size+1,0,none⟩) (by rw[b];exact Nat.lt_succ_self _)).trans j;have I:=(d.cell (p:=⟨w.heap.size+1,1,none⟩) (by rw[b];exact Nat.lt_succ_self _)).trans q;have f0:=d.frozen (p:=⟨w.heap.size+1,0,none⟩) (by rw[b];exact Nat.lt_succ_self _);have f1:=d.frozen (p:=⟨w.heap.size+1,1,none⟩) (by rw[b];exact Nat.lt_succ_self _);have t:=hb.trans (d.mono hb.size);clear r j q hb d;go_wp2_with fail;exact bodyPost_ret (v:=.agg #[.int .i64 (btI z y),y]) (by simp[results,results138,results170,results149,go_sem,H,I]) rfl ⟨rfl,ai (ai t (Nat.le_succ _) _) (Nat.le_succ _) _⟩
def l3Piece_any(a ac:Option Addr)(cap n m k:Nat)(l c:List Int)(w:World)(G:l.length=n)(x:c.length=n)(h:br w a l)(d:br w ac c)(E:k<n)(F:n<=300)(C:0<=l.getD k 0/\l.getD k 0<=15)(D:0<=c.getD k 0/\c.getD k 0<65536) :
  CD 231 #[.slice a n cap,.slice ac n m,.int .i64 (k:Int)] w (.agg #[.int .i64 (rv (l.getD k 0).toNat (c.getD k 0).toNat:Nat),.int .i64 (l.getD k 0)]):=by
 have u:(n:Int)<=300:=by omega
 have t:(k:Int)<(n:Int):=by omega
 obtain⟨g,o,rfl,s,i⟩:=h (by omega);obtain⟨g',o',rfl,f,b⟩:=d (by omega);have q:=i k (by omega);have r:=b k (by omega);obtain⟨y0,y1⟩:=C;obtain⟨z0,z1⟩:=D;clear i b h d;generalize l.getD k 0=y at *
 generalize c.getD k 0=z at *
 have hb:Below w.heap.size w (w.alloc (.cells #[.int .i64 0,.int .i64 0] 137)):=(Below.refl _ _).alloc (Nat.le_refl _) _;have y2:y<=16:=by omega
 go_enter func231,ntmps231;have j:∀A:Array Value,(w.alloc (.cells A 137)).drew.cell? ⟨g,o+k,none⟩=some (.int .i64 y)/\(w.alloc (.cells A 137)).drew.cell? ⟨g',o'+k,none⟩=some (.int .i64 z):=fun A=>by
  have hb:Below w.heap.size w (w.alloc (.cells A 137)):=(Below.refl _ _).alloc (Nat.le_refl _) _;exact⟨(hb.cell (p:=⟨g,o+k,none⟩) s).trans q,(hb.cell (p:=⟨g',o'+k,none⟩) f).trans r⟩
 go_wp2_with fail
 go_region_held3 (fun W=>W.cell? ⟨g,o+k,none⟩=some (.int .i64 y)/\W.cell? ⟨g',o'+k,none⟩=some (.int .i64 z)) (first|exact j _|assumption) (first|(go_at_call 244;refine(Ev _ _ _ z0 z1 y0 y2).mono ?_;rintro e x1⟨rfl,B⟩;subst B))
 go_wp2;exact bodyPost_ret (v:=.agg #[.int .i64 (rv y.toNat z.toNat:Nat),y]) (by simp[results,results231,go_sem]) rfl ⟨rfl,((Below.refl _ _).alloc (Nat.le_refl _) _).drew⟩
end Go.Proofs.YtemopnjckikkaaaGreatDoor.Bkx
namespace Go.Proofs.YtemopnjckikkaaaGreatDoor
open Go.Proofs.Tryz
open Go.RowKit Corb
def Kw(w:World)(vl vc vs:Value)(m:Nat->Nat)(t:TypeId):ii (w.alloc (.cells (bp vl vc vs m).toArray t)) w.heap.size vl vc vs m:=by
 refine ii.of_range ?_ (fun o=>lG w _ _ o) (by simp);intro j v a;rw[a0F,cell_of_row _ _ _ _ t (0,0) (heap_alloc_new w _)];simpa using a
